"""One object: how it stands, its deeds and events, and the weights of its facts."""


class World:
    def __init__(self):
        # A begun world has two facts at least, so none tells that it has not begun.
        self.begin(0)

    def begin(self, many):
        self.many = many
        self.state = 0
        self.deeds = []
        self.events = []
        self.weights = [1] * many

    def has_begun(self):
        return self.many > 0

    def everything(self):
        return (1 << self.many) - 1

    def behind_events(self, state):
        # Each event sees what those ahead of it have made in the same step.
        for event in self.events:
            if event.can_happen(state):
                state = event.happen(state)
        return state

    def waiting(self):
        return len(self.deeds)

    def is_choice(self, choice):
        return choice <= self.waiting()

    def can_choose(self, choice, state):
        return choice == self.waiting() or self.deeds[choice].can_happen(state)

    def behind_choice(self, choice, state):
        if choice == self.waiting():
            return self.behind_events(state)
        return self.behind_events(self.deeds[choice].happen(state))

    def states_along(self, row):
        state = self.state
        # How it stands now comes first, so that a row of no choices has an end, too.
        states = [state]
        for choice in row:
            if not self.can_choose(choice, state):
                return states
            state = self.behind_choice(choice, state)
            states.append(state)
        return states

    def behind_waiting(self, steps):
        state = self.state
        for turn in range(steps):
            state = self.behind_choice(self.waiting(), state)
        return state

    def held_against(self, by_itself, steps):
        if by_itself == 0:
            return self.state
        return self.behind_waiting(steps)

    def facts_of(self, facts):
        return [fact for fact in range(self.many) if (facts >> fact) & 1 == 1]

    def weight_of(self, facts):
        return sum([self.weights[fact] for fact in self.facts_of(facts)])

    def weight_changed(self, aim, state, against):
        return self.weight_of(aim.besides(state ^ against))
