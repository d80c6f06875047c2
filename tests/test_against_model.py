"""Many houses beside a second model, which is written with sets of facts and counts whole rows of steps."""

import unittest

from helper import LARGEST, Promised


class Numbers:
    """Whole numbers in a fixed order that looks mixed."""

    def __init__(self, seed):
        self.seed = seed

    def below(self, limit):
        self.seed = (self.seed * 6364136223846793005 + 1442695040888963407) % (1 << 64)
        return (self.seed >> 33) % limit


def members(number):
    return frozenset(fact for fact in range(33) if number >> fact & 1)


def number_of(facts):
    return sum(1 << fact for fact in facts)


class Model:
    def __init__(self, size):
        self.all = frozenset(range(size))
        self.deeds = []
        self.events = []
        self.promises = []
        self.state = frozenset()
        self.shadow = frozenset()
        self.done = 0

    def happen(self, rule, state):
        a, b, c, d = rule
        return (state - c) | d if state & a == b else None

    def step(self, deed, state, events=None):
        after = state if deed is None else self.happen(deed, state)
        if after is None:
            return None
        for event in self.events if events is None else events:
            changed = self.happen(event, after)
            after = after if changed is None else changed
        return after

    def near(self, promise, state, deeds, events):
        kind, a, w, steps = promise
        reached = {state}
        for _ in range(steps):
            more = {self.step(deed, one, events) for one in reached for deed in deeds + [None]}
            reached |= more - {None}
        return any(one & members(a) == members(w) for one in reached)

    def failing(self, state, shadow, deeds=None, events=None):
        deeds = self.deeds if deeds is None else deeds
        events = self.events if events is None else events
        found = []
        for number, promise in enumerate(self.promises):
            if promise[0] == 0:
                fine = not (state ^ shadow) & members(promise[1])
            else:
                fine = self.near(promise, state, deeds, events)
            if not fine:
                found.append(number)
        return found

    def is_rule(self, rule):
        a, b, c, d = rule
        return a <= self.all and b <= a and c <= self.all and d <= c and len(c) > 0

    def deed(self, *numbers):
        rule = tuple(members(number) for number in numbers)
        if not self.is_rule(rule):
            return [-22]
        if len(self.deeds) >= 6:
            return [-28]
        self.deeds.append(rule)
        return [len(self.deeds) - 1]

    def event(self, *numbers):
        rule = tuple(members(number) for number in numbers)
        if not self.is_rule(rule):
            return [-22]
        if len(self.events) >= 3:
            return [-28]
        if self.failing(self.state, self.shadow, None, self.events + [rule]):
            return [-30]
        self.events.append(rule)
        return [len(self.events) - 1]

    def undeed(self, i):
        left = [deed for number, deed in enumerate(self.deeds) if number != i]
        if len(left) == len(self.deeds):
            return [-2]
        if self.failing(self.state, self.shadow, left, None):
            return [-30]
        self.deeds = left
        return [len(left)]

    def unevent(self, i):
        left = [event for number, event in enumerate(self.events) if number != i]
        if len(left) == len(self.events):
            return [-2]
        if self.failing(self.state, self.shadow, None, left):
            return [-30]
        self.events = left
        return [len(left)]

    def set(self, s):
        state = members(s)
        if not state <= self.all:
            return [-22]
        if self.failing(state, state):
            return [-30]
        before = self.state
        self.state = self.shadow = state
        return [number_of(before)]

    def now(self):
        return [number_of(self.state)]

    def shadow_now(self):
        return [number_of(self.shadow)]

    def otherwise(self):
        facts = sorted(self.state ^ self.shadow)
        return [len(facts)] + facts

    def behind(self, i):
        choices = self.deeds + [None]
        if i >= len(choices):
            return None, [-2]
        after = self.step(choices[i], self.state)
        if after is None:
            return None, [-6]
        return after, self.failing(after, self.step(None, self.shadow))

    def do(self, i):
        after, failing = self.behind(i)
        if after is None:
            return failing
        if failing:
            return [-30]
        if self.done >= 30:
            return [-28]
        self.state = after
        self.shadow = self.step(None, self.shadow)
        self.done += 1
        return self.now()

    def safe(self):
        found = [i for i in range(len(self.deeds) + 1) if self.behind(i)[1] == []]
        return [len(found)] + found

    def breaks(self, i):
        after, failing = self.behind(i)
        return failing if after is None else [len(failing)] + failing

    def answer(self, name, *arguments):
        return self.shadow_now() if name == "shadow" else getattr(self, name)(*arguments)


NAMES = ("deed", "deed", "deed", "event", "undeed", "unevent", "set", "breaks", "do", "do", "do", "do")
REFUSALS = {
    "deed": (0, -22, -28), "event": (0, -22, -28, -30), "undeed": (0, -2, -30), "unevent": (0, -2, -30),
    "set": (0, -22, -30), "do": (0, -2, -6, -30), "breaks": (0, -2, -6),
}
CHECKS = ("now", "shadow", "otherwise", "safe")


def some_rule(numbers, size):
    a = numbers.below(1 << size) & numbers.below(1 << size)
    c = numbers.below(1 << size) & numbers.below(1 << size)
    return [a, a & numbers.below(1 << size), c, c & numbers.below(1 << size)]


def some_call(numbers, size):
    name = NAMES[numbers.below(len(NAMES))]
    if name in ("deed", "event"):
        arguments = some_rule(numbers, size)
    elif name == "set":
        arguments = [numbers.below((1 << size) + 1)]
    else:
        arguments = [numbers.below(6)]
    if numbers.below(12) == 0:
        arguments[numbers.below(len(arguments))] = (LARGEST, 1 << size, numbers.below(40))[numbers.below(3)]
    return [name] + arguments


def some_promise(numbers, size):
    a = numbers.below(1 << size)
    if numbers.below(3) == 0:
        return (0, a & numbers.below(1 << size), 0, 0)
    return (1, a, a & numbers.below(1 << size), (0, 1, 2, 3, 40)[numbers.below(5)])


class AgainstModel(unittest.TestCase):
    def try_house(self, seed, seen):
        numbers = Numbers(seed)
        size = 2 + numbers.below(4)
        home = Promised(f"begin {size}")
        model = Model(size)
        for _ in range(50):
            if numbers.below(6) == 0 and len(model.promises) < 4:
                promise = some_promise(numbers, size)
                model.promises.append(promise)
                if model.failing(model.state, model.shadow):
                    model.promises.pop()
                home.promise(*model.promises)
            call = some_call(numbers, size)
            for asked in [call] + [[name] for name in CHECKS]:
                expected = model.answer(*asked)
                self.assertEqual(home.call(asked), expected, (seed, asked))
                seen.add((asked[0], min(0, expected[0])))
            self.assertEqual(model.failing(model.state, model.shadow), [], seed)

    def test_many_houses(self):
        seen = set()
        for seed in range(200):
            self.try_house(seed, seen)
        for name, refusals in REFUSALS.items():
            for refusal in refusals:
                self.assertIn((name, refusal), seen)


if __name__ == "__main__":
    unittest.main()
