"""Calls by name for the tests, and a way to ask for a list of them."""

from leastchange.facts import answers

HIGHEST = 4294967295

NUMBERS = {
    "begin": 0, "deed": 1, "event": 2, "undeed": 3, "unevent": 4, "set": 5,
    "now": 6, "do": 7, "weight": 8, "weights": 9, "base": 10, "least": 11,
    "row": 12, "costs": 13, "guarded": 14, "guardrow": 15, "changes": 16,
    "touches": 17, "price": 18, "free": 19, "firstfree": 20,
}


def flat(calls):
    """The one list of whole numbers for calls such as ("deed", 1, 0, 2, 2)."""
    numbers = []
    for call in calls:
        numbers.append(NUMBERS[call[0]])
        for given in call[1:]:
            if isinstance(given, list):
                numbers.append(len(given))
                numbers.extend(given)
            else:
                numbers.append(given)
    return numbers


def split(told):
    """What was answered to each call, one list each."""
    answered = []
    place = 0
    while place < len(told):
        end = place + 1 + told[place]
        if told[place] < 1 or end > len(told):
            raise ValueError("the counts do not fit the answers")
        answered.append(told[place + 1:end])
        place = end
    return answered


def ask(*calls):
    """What is answered to each of the calls, one list each."""
    return split(answers(flat(calls)))


def ask_last(*calls):
    """What is answered to the last of the calls alone."""
    return ask(*calls)[-1]
