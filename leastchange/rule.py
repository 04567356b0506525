"""Deeds and events: what one needs to be so, and what it makes so.

A set of facts is a whole number in which fact q counts 2 to the power of q.
"""


def within(part, whole):
    return (part & whole) == part


def is_rule(everything, needs, needs_so, makes, makes_so):
    needs_fit = within(needs, everything) and within(needs_so, needs)
    makes_fit = within(makes, everything) and within(makes_so, makes)
    return needs_fit and makes_fit and makes != 0


class Rule:
    def __init__(self, needs, needs_so, makes, makes_so):
        self.needs = needs
        self.needs_so = needs_so
        self.makes = makes
        self.makes_so = makes_so

    def can_happen(self, state):
        return (state & self.needs) == self.needs_so

    def happen(self, state):
        # Only the facts that it makes are cleared first: all others stay as they are.
        return (state - (state & self.makes)) | self.makes_so
