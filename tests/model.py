"""A second telling of the document for the tests: each fact is held as True or False by itself."""

import functools


class Refused(Exception):
    def __init__(self, number):
        super().__init__(number)
        self.number = number


def refuse_if(due, number):
    if due:
        raise Refused(number)


@functools.lru_cache(maxsize=None)
def members(number):
    return frozenset(q for q in range(32) if number // 2 ** q % 2 == 1)


def told_as_number(facts):
    return sum(2 ** q for q in facts)


class Model:
    def __init__(self):
        self.facts = None

    def answer(self, call):
        try:
            refuse_if(self.facts is None and call[0] != "begin", -11)
            answered = getattr(self, "call_" + call[0])(*call[1:])
        except Refused as refusal:
            return [refusal.number]
        return answered if isinstance(answered, list) else [answered]

    def call_begin(self, m):
        refuse_if(m not in (2, 3, 4, 5), -22)
        self.facts = set(range(m))
        self.so = set()
        self.rules = {"deed": [], "event": []}
        self.weight_of = {q: 1 for q in range(m)}
        return 0

    def told(self, kind, most, a, b, c, d):
        a, b, c, d = members(a), members(b), members(c), members(d)
        refuse_if(not (b <= a <= self.facts and d <= c <= self.facts and c), -22)
        refuse_if(len(self.rules[kind]) == most, -28)
        self.rules[kind].append(({q: q in b for q in a}, {q: q in d for q in c}))
        return len(self.rules[kind]) - 1

    def call_deed(self, a, b, c, d):
        return self.told("deed", 6, a, b, c, d)

    def call_event(self, a, b, c, d):
        return self.told("event", 3, a, b, c, d)

    def taken_out(self, kind, i):
        refuse_if(i >= len(self.rules[kind]), -2)
        self.rules[kind] = self.rules[kind][:i] + self.rules[kind][i + 1:]
        return len(self.rules[kind])

    def call_undeed(self, i):
        return self.taken_out("deed", i)

    def call_unevent(self, i):
        return self.taken_out("event", i)

    def call_set(self, s):
        refuse_if(not members(s) <= self.facts, -22)
        before = self.so
        self.so = members(s)
        return told_as_number(before)

    def call_now(self):
        return told_as_number(self.so)

    @staticmethod
    def can(rule, so):
        return all((q in so) == wanted for q, wanted in rule[0].items())

    @staticmethod
    def made(rule, so):
        return {q for q in so | set(rule[1]) if rule[1].get(q, q in so)}

    def step(self, choice, so):
        """What is so behind a step, or None if the choice can't be done."""
        deeds = self.rules["deed"]
        if choice < len(deeds):
            if not self.can(deeds[choice], so):
                return None
            so = self.made(deeds[choice], so)
        for event in self.rules["event"]:
            if self.can(event, so):
                so = self.made(event, so)
        return so

    def call_do(self, i):
        refuse_if(i >= len(self.rules["deed"]), -2)
        so = self.step(i, self.so)
        refuse_if(so is None, -6)
        self.so = so
        return told_as_number(so)

    def call_weight(self, q, w):
        refuse_if(q not in self.facts, -2)
        refuse_if(w > 100, -22)
        before = self.weight_of[q]
        self.weight_of[q] = w
        return before

    def call_weights(self):
        return [len(self.facts)] + [self.weight_of[q] for q in sorted(self.facts)]

    def against(self, b, t):
        so = self.so
        for turn in range(t * b):
            so = self.step(len(self.rules["deed"]), so)
        return so

    def call_base(self, b, t):
        refuse_if(b > 1 or t > 40, -22)
        return told_as_number(self.against(b, t))

    def check_choices(self, row):
        refuse_if(any(choice > len(self.rules["deed"]) for choice in row), -2)

    def follow(self, row):
        """How many choices of the row can be done, and what is so behind them."""
        so = self.so
        for done, choice in enumerate(row):
            behind = self.step(choice, so)
            if behind is None:
                return done, so
            so = behind
        return len(row), so

    @staticmethod
    def counted(facts):
        return [len(facts)] + sorted(facts)

    def call_changes(self, b, row):
        self.check_choices(row)
        refuse_if(b > 1, -22)
        done, so = self.follow(row)
        return self.counted(so.symmetric_difference(self.against(b, done)))

    def call_touches(self, i):
        self.check_choices([i])
        so = self.step(i, self.so)
        refuse_if(so is None, -6)
        return self.counted(so.symmetric_difference(self.against(1, 1)))

    def check_aim(self, a, w, b):
        refuse_if(not members(w) <= members(a) <= self.facts or b > 1, -22)

    @staticmethod
    def meets(so, a, w):
        return all((q in so) == (q in members(w)) for q in members(a))

    def changed(self, so, against, a):
        return sum(self.weight_of[q] for q in self.facts - members(a) if (q in so) != (q in against))

    def call_price(self, a, w, b, row):
        self.check_choices(row)
        self.check_aim(a, w, b)
        done, so = self.follow(row)
        refuse_if(done < len(row), -6)
        refuse_if(not self.meets(so, a, w), -33)
        return self.changed(so, self.against(b, len(row)), a)

    def endings(self, a, w, b, g, k):
        """For each number of steps by which the aim can be come to: the least that's changed, and its first row.

        Told from behind: what is best from a state on is the best of what each choice leads to.
        """
        bases = [frozenset(self.against(b, t)) for t in range(k + 1)]
        known = {}

        def onward(so, t):
            if (so, t) not in known:
                known[so, t] = found = {}
                if self.meets(so, a, w):
                    found[t] = (self.changed(so, bases[t], a), ())
                if t < k:
                    try_choices(so, t, found)
            return known[so, t]

        def try_choices(so, t, found):
            for choice in range(len(self.rules["deed"]) + 1):
                behind = self.step(choice, so)
                if behind is None or members(g) & behind.symmetric_difference(bases[t + 1]):
                    continue
                for n, (much, row) in onward(frozenset(behind), t + 1).items():
                    candidate = (much, (choice,) + row)
                    found[n] = min(found.get(n, candidate), candidate)

        return onward(frozenset(self.so), 0)

    def best(self, a, w, b, g, k):
        self.check_aim(a, w, b)
        refuse_if(k > 10 or not members(g) <= self.facts, -22)
        found = self.endings(a, w, b, g, k)
        refuse_if(not found, -33)
        return min((much, n, row) for n, (much, row) in found.items())

    def call_guarded(self, a, w, b, g, k):
        return list(self.best(a, w, b, g, k)[:2])

    def call_guardrow(self, a, w, b, g, k):
        row = self.best(a, w, b, g, k)[2]
        return [len(row)] + list(row)

    def call_least(self, a, w, b, k):
        return self.call_guarded(a, w, b, 0, k)

    def call_row(self, a, w, b, k):
        return self.call_guardrow(a, w, b, 0, k)

    def call_costs(self, a, w, b, k):
        self.check_aim(a, w, b)
        refuse_if(k > 10, -22)
        found = self.endings(a, w, b, 0, k)
        return [k + 1] + [found[n][0] if n in found else -1 for n in range(k + 1)]

    def call_free(self, a, w, b, k):
        self.check_aim(a, w, b)
        refuse_if(k > 10, -22)
        return self.counted({q for q in self.facts - members(a) if self.endings(a, w, b, 2 ** q, k)})

    def call_firstfree(self, a, w, b):
        self.check_aim(a, w, b)
        found = self.endings(a, w, b, 0, 10)
        free = [n for n in found if found[n][0] == 0]
        refuse_if(not free, -33)
        return min(free)


def model_answers(calls):
    model = Model()
    return [model.answer(call) for call in calls]
