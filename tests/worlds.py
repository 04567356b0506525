"""Worlds that several tests ask, and what may not be asked of them."""

from asking import HIGHEST

# Deed 0 makes fact 0 so, deed 1 needs it and makes fact 1 so, deed 2 makes fact 0 not so; 3 is waiting.
THREE_DEEDS = (
    ("begin", 4), ("deed", 1, 0, 1, 1), ("deed", 1, 1, 2, 2), ("deed", 0, 0, 1, 0),
)
# Besides, fact 3 comes by itself, and fact 2 with it a step later.
WITH_EVENTS = THREE_DEEDS + (("event", 8, 8, 4, 4), ("event", 0, 0, 8, 8))

WEIGHED = (("weight", 0, 10), ("weight", 1, 20), ("weight", 2, 40), ("weight", 3, 80))

# Deeds 0 and 1 turn fact 0; 2 and 3 turn fact 1 while fact 0 is so; 4 and 5 turn fact 2 while
# of facts 0 and 1 just fact 1 is so. So fact 2 takes four steps, and all put back takes seven.
RINGS = (
    ("begin", 3), ("deed", 1, 0, 1, 1), ("deed", 1, 1, 1, 0), ("deed", 3, 1, 2, 2), ("deed", 3, 3, 2, 0),
    ("deed", 7, 2, 4, 4), ("deed", 7, 6, 4, 0),
)

# Fact 2 comes by itself, and fact 1 a step later; deed 0 makes fact 1 so with fact 0, maybe too early.
EARLY = (("begin", 3), ("deed", 0, 0, 3, 3), ("event", 4, 4, 2, 2), ("event", 0, 0, 4, 4))

# Of four facts, a, w, b and k with which there is no aim, held against neither, or too many steps.
NOT_ALLOWED = (
    (16, 0, 0, 3), (16, 16, 0, 3), (31, 2, 1, 3), (HIGHEST, 0, 0, 3), (HIGHEST, HIGHEST, 1, 3),
    (1, 2, 0, 3), (0, 1, 0, 3), (0, 16, 0, 3), (3, 4, 1, 3), (2, 3, 0, 3), (1, HIGHEST, 0, 3), (2, 2, 2, 3),
    (2, 2, 3, 3), (2, 2, HIGHEST, 3), (2, 2, 0, 11), (2, 2, 1, 11), (2, 2, 0, 12), (2, 2, 1, HIGHEST),
    (16, 32, 2, 11), (0, 0, 0, 11), (0, 0, 2, 0), (0, 1, 0, 0),
)
