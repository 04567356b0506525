"""What each call answers, and what it changes.

Each function takes the world and the call's numbers, and gives back the
numbers that are answered. The refusals of a call are asked in the order in
which the document tells them behind it.
"""

from leastchange.aim import Aim
from leastchange.aim import is_aim
from leastchange.rule import Rule
from leastchange.rule import is_rule
from leastchange.rule import within
from leastchange.search import endings_by_steps
from leastchange.search import least_ending

NO_SUCH = -2
CANNOT_BE_DONE = -6
NOT_BEGUN = -11
NOT_ALLOWED = -22
TOO_MANY = -28
AIM_NOT_MET = -33

FEWEST_FACTS = 2
MOST_FACTS = 5
MOST_DEEDS = 6
MOST_EVENTS = 3
MOST_WEIGHT = 100
MOST_BASE_STEPS = 40
MOST_STEPS = 10

NO_GUARD = 0
NO_ROW = -1

BEGIN = 0


def answer_begin(world, given):
    many = given[0]
    if many < FEWEST_FACTS or many > MOST_FACTS:
        return [NOT_ALLOWED]
    world.begin(many)
    return [0]


def add_rule(world, rules, most, given):
    if not is_rule(world.everything(), given[0], given[1], given[2], given[3]):
        return [NOT_ALLOWED]
    if len(rules) >= most:
        return [TOO_MANY]
    rules.append(Rule(given[0], given[1], given[2], given[3]))
    return [len(rules) - 1]


def answer_deed(world, given):
    return add_rule(world, world.deeds, MOST_DEEDS, given)


def answer_event(world, given):
    return add_rule(world, world.events, MOST_EVENTS, given)


def take_out(rules, place):
    if place >= len(rules):
        return [NO_SUCH]
    rules.pop(place)
    return [len(rules)]


def answer_undeed(world, given):
    return take_out(world.deeds, given[0])


def answer_unevent(world, given):
    return take_out(world.events, given[0])


def answer_set(world, given):
    state = given[0]
    if state > world.everything():
        return [NOT_ALLOWED]
    before = world.state
    world.state = state
    return [before]


def answer_now(world, given):
    return [world.state]


def answer_do(world, given):
    deed = given[0]
    # Waiting is a choice, but no deed: its number is refused like any other above.
    if deed >= len(world.deeds):
        return [NO_SUCH]
    if not world.can_choose(deed, world.state):
        return [CANNOT_BE_DONE]
    world.state = world.behind_choice(deed, world.state)
    return [world.state]


def answer_weight(world, given):
    fact = given[0]
    weight = given[1]
    if fact >= world.many:
        return [NO_SUCH]
    if weight > MOST_WEIGHT:
        return [NOT_ALLOWED]
    before = world.weights[fact]
    world.weights[fact] = weight
    return [before]


def answer_weights(world, given):
    return [world.many] + world.weights


def answer_base(world, given):
    by_itself = given[0]
    steps = given[1]
    if by_itself > 1 or steps > MOST_BASE_STEPS:
        return [NOT_ALLOWED]
    return [world.held_against(by_itself, steps)]


def all_choices(world, row):
    return all([world.is_choice(choice) for choice in row])


def count_and_facts(world, facts):
    told = world.facts_of(facts)
    return [len(told)] + told


def answer_changes(world, given):
    by_itself = given[0]
    row = given[1:]
    if not all_choices(world, row):
        return [NO_SUCH]
    if by_itself > 1:
        return [NOT_ALLOWED]
    states = world.states_along(row)
    against = world.held_against(by_itself, len(states) - 1)
    return count_and_facts(world, states[-1] ^ against)


def answer_touches(world, given):
    choice = given[0]
    if not world.is_choice(choice):
        return [NO_SUCH]
    if not world.can_choose(choice, world.state):
        return [CANNOT_BE_DONE]
    chosen = world.behind_choice(choice, world.state)
    return count_and_facts(world, chosen ^ world.behind_waiting(1))


def answer_price(world, given):
    by_itself = given[2]
    row = given[3:]
    if not all_choices(world, row):
        return [NO_SUCH]
    if not is_aim(world.everything(), given[0], given[1]) or by_itself > 1:
        return [NOT_ALLOWED]
    aim = Aim(given[0], given[1])
    states = world.states_along(row)
    if len(states) <= len(row):
        return [CANNOT_BE_DONE]
    if not aim.is_met(states[-1]):
        return [AIM_NOT_MET]
    return [world.weight_changed(aim, states[-1], world.held_against(by_itself, len(row)))]


def can_be_asked(world, asked):
    # What is asked stands as guarded tells it: a, w, b, g, k.
    aim_fits = is_aim(world.everything(), asked[0], asked[1]) and asked[2] <= 1
    return aim_fits and within(asked[3], world.everything()) and asked[4] <= MOST_STEPS


def endings_asked(world, asked):
    return endings_by_steps(world, Aim(asked[0], asked[1]), asked[2], asked[3], asked[4])


def without_guard(given):
    # Every row keeps a guard of no facts.
    return given[:3] + [NO_GUARD, given[3]]


def answer_guarded(world, given):
    if not can_be_asked(world, given):
        return [NOT_ALLOWED]
    ending = least_ending(endings_asked(world, given))
    if ending is None:
        return [AIM_NOT_MET]
    return [ending.changed, len(ending.row)]


def answer_guardrow(world, given):
    if not can_be_asked(world, given):
        return [NOT_ALLOWED]
    ending = least_ending(endings_asked(world, given))
    if ending is None:
        return [AIM_NOT_MET]
    return [len(ending.row)] + ending.row


def answer_least(world, given):
    return answer_guarded(world, without_guard(given))


def answer_row(world, given):
    return answer_guardrow(world, without_guard(given))


def costs_asked(world, asked):
    endings = endings_asked(world, asked)
    return [NO_ROW if ending is None else ending.changed for ending in endings]


def answer_costs(world, given):
    asked = without_guard(given)
    if not can_be_asked(world, asked):
        return [NOT_ALLOWED]
    costs = costs_asked(world, asked)
    return [len(costs)] + costs


def can_be_left(world, given, fact):
    asked = given[:3] + [1 << fact, given[3]]
    return least_ending(endings_asked(world, asked)) is not None


def answer_free(world, given):
    if not can_be_asked(world, without_guard(given)):
        return [NOT_ALLOWED]
    others = world.facts_of(world.everything() - given[0])
    left = [fact for fact in others if can_be_left(world, given, fact)]
    return [len(left)] + left


def answer_firstfree(world, given):
    asked = given + [NO_GUARD, MOST_STEPS]
    if not can_be_asked(world, asked):
        return [NOT_ALLOWED]
    costs = costs_asked(world, asked)
    if 0 not in costs:
        return [AIM_NOT_MET]
    # Of rows of just so many steps the first that changes nothing is the fewest k.
    return [costs.index(0)]


REPLIES = {
    0: answer_begin,
    1: answer_deed,
    2: answer_event,
    3: answer_undeed,
    4: answer_unevent,
    5: answer_set,
    6: answer_now,
    7: answer_do,
    8: answer_weight,
    9: answer_weights,
    10: answer_base,
    11: answer_least,
    12: answer_row,
    13: answer_costs,
    14: answer_guarded,
    15: answer_guardrow,
    16: answer_changes,
    17: answer_touches,
    18: answer_price,
    19: answer_free,
    20: answer_firstfree,
}


def answer_call(world, number, given):
    if number != BEGIN and not world.has_begun():
        return [NOT_BEGUN]
    return REPLIES[number](world, given)
