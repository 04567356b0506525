"""An aim: some facts, and which of them are to be so."""

from leastchange.rule import within


def is_aim(everything, facts, wanted):
    return within(facts, everything) and within(wanted, facts)


class Aim:
    def __init__(self, facts, wanted):
        self.facts = facts
        self.wanted = wanted

    def is_met(self, state):
        return (state & self.facts) == self.wanted

    def besides(self, facts):
        # The aim's own facts are meant to change, so they never count as changed.
        return facts - (facts & self.facts)
