"""The way in: a list of calls on one new object, and the list of what they answer."""

from leastchange.replies import answer_call
from leastchange.world import World

# How many whole numbers stand behind each call's own number, ahead of its row.
# All calls are told here, as each of them is read and refused before a begin.
PLAIN_NUMBERS = (1, 4, 4, 1, 1, 1, 0, 1, 2, 0, 2, 4, 4, 4, 5, 5, 1, 1, 3, 4, 3)

CHANGES = 16
PRICE = 18


def has_row(number):
    return number == CHANGES or number == PRICE


def plain_end(calls, place):
    return place + 1 + PLAIN_NUMBERS[calls[place]]


def call_end(calls, place):
    end = plain_end(calls, place)
    if has_row(calls[place]):
        return end + 1 + calls[end]
    return end


def given_numbers(calls, place):
    end = plain_end(calls, place)
    given = calls[place + 1:end]
    if has_row(calls[place]):
        # A row goes on to the call's end, so its length is no longer needed.
        given.extend(calls[end + 1:call_end(calls, place)])
    return given


def answers(calls):
    world = World()
    told = []
    place = 0
    while place < len(calls):
        answer = answer_call(world, calls[place], given_numbers(calls, place))
        told.append(len(answer))
        told.extend(answer)
        place = call_end(calls, place)
    return told
