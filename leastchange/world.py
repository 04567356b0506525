"""One object: how it stands, its deeds and events, and the weights of its facts."""


class World:
    def __init__(self):
        # A begun world has two facts at least, so none tells that it has not begun.
        self.many = 0
        self.state = 0
        self.deeds = []
        self.events = []
        self.weights = []

    def begin(self, many):
        self.many = many
        self.state = 0
        self.deeds = []
        self.events = []
        self.weights = [1] * many

    def has_begun(self):
        return self.many > 0

    def everything(self):
        return (1 << self.many) - 1

    def behind_events(self, state):
        # Each event sees what those ahead of it have made in the same step.
        for event in self.events:
            if event.can_happen(state):
                state = event.happen(state)
        return state

    def behind_deed(self, deed, state):
        return self.behind_events(self.deeds[deed].happen(state))

    def behind_waiting(self, steps):
        state = self.state
        for turn in range(steps):
            state = self.behind_events(state)
        return state

    def held_against(self, by_itself, steps):
        if by_itself == 0:
            return self.state
        return self.behind_waiting(steps)
