"""The rows that end with an aim: for each number of steps, the first of those that change least.

Rows are followed step by step. Of all rows of as many steps to one state only
the first is kept: what may follow, and what's changed, is the same behind each.
"""


class Ending:
    def __init__(self, changed, row):
        self.changed = changed
        self.row = row


def rows_one_step_on(world, rows, against, guard):
    longer = {}
    # A dict keeps the order in which states came: here that of their rows, so
    # the row by which a state is come to first is the first of all rows to it.
    for state in rows:
        for choice in range(world.waiting() + 1):
            if world.can_choose(choice, state):
                behind = world.behind_choice(choice, state)
                if behind not in longer and ((behind ^ against) & guard) == 0:
                    longer[behind] = rows[state] + [choice]
    return longer


def first_least(world, aim, rows, against):
    least = None
    for state in rows:
        if aim.is_met(state):
            changed = world.weight_changed(aim, state, against)
            if least is None or changed < least.changed:
                least = Ending(changed, rows[state])
    return least


def endings_by_steps(world, aim, by_itself, guard, most):
    rows = {world.state: []}
    endings = [first_least(world, aim, rows, world.state)]
    for steps in range(1, most + 1):
        against = world.held_against(by_itself, steps)
        rows = rows_one_step_on(world, rows, against, guard)
        endings.append(first_least(world, aim, rows, against))
    return endings


def least_ending(endings):
    least = None
    for ending in endings:
        # Only less than before counts, so of those that change as little the shortest stays.
        if ending is not None and (least is None or ending.changed < least.changed):
            least = ending
    return least
