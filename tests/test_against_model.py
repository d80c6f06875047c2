"""Many houses beside a second model, which is written with sets of facts and looks for rows from their end."""

import itertools
import unittest

from changesnothing.house import answers
from helper import LARGEST, Home, flat, split


class Numbers:
    """Whole numbers in a fixed order that looks mixed."""

    def __init__(self, seed):
        self.seed = seed

    def below(self, limit):
        self.seed = (self.seed * 6364136223846793005 + 1442695040888963407) % (1 << 64)
        return (self.seed >> 33) % limit


def members(number):
    return frozenset(fact for fact in range(33) if number >> fact & 1)


def number_of(facts):
    return sum(1 << fact for fact in facts)


class Model:
    def __init__(self, size):
        self.begin(size)

    def begin(self, size):
        if size > 5:
            return [-22]
        self.all = frozenset(range(size))
        self.deeds = []
        self.events = []
        self.promises = []
        self.state = frozenset()
        self.shadow = frozenset()
        self.done = []
        return [0]

    def happen(self, rule, state):
        a, b, c, d = rule
        return (state - c) | d if state & a == b else None

    def step(self, deed, state, events=None):
        after = state if deed is None else self.happen(deed, state)
        if after is None:
            return None
        for event in self.events if events is None else events:
            changed = self.happen(event, after)
            after = after if changed is None else changed
        return after

    def near(self, promise, state, deeds, events):
        kind, a, w, steps = promise
        wanted, others = members(w), members(a) - members(w)
        reached = {state}
        for _ in range(steps):
            if any(wanted <= one and not others & one for one in reached):
                return True
            more = {self.step(deed, one, events) for one in reached for deed in deeds + [None]} - {None}
            if more <= reached:
                break
            reached |= more
        return any(wanted <= one and not others & one for one in reached)

    def failing(self, state, shadow, deeds=None, events=None):
        deeds = self.deeds if deeds is None else deeds
        events = self.events if events is None else events
        found = []
        for number, promise in enumerate(self.promises):
            if promise[0] == 0:
                fine = not (state ^ shadow) & members(promise[1])
            else:
                fine = self.near(promise, state, deeds, events)
            if not fine:
                found.append(number)
        return found

    def is_rule(self, rule):
        a, b, c, d = rule
        return a <= self.all and b <= a and c <= self.all and d <= c and len(c) > 0

    def deed(self, *numbers):
        rule = tuple(members(number) for number in numbers)
        if not self.is_rule(rule):
            return [-22]
        if len(self.deeds) >= 6:
            return [-28]
        self.deeds.append(rule)
        return [len(self.deeds) - 1]

    def event(self, *numbers):
        rule = tuple(members(number) for number in numbers)
        if not self.is_rule(rule):
            return [-22]
        if len(self.events) >= 3:
            return [-28]
        if self.failing(self.state, self.shadow, None, self.events + [rule]):
            return [-30]
        self.events.append(rule)
        return [len(self.events) - 1]

    def undeed(self, i):
        left = [deed for number, deed in enumerate(self.deeds) if number != i]
        if len(left) == len(self.deeds):
            return [-2]
        if self.failing(self.state, self.shadow, left, None):
            return [-30]
        self.deeds = left
        return [len(left)]

    def unevent(self, i):
        left = [event for number, event in enumerate(self.events) if number != i]
        if len(left) == len(self.events):
            return [-2]
        if self.failing(self.state, self.shadow, None, left):
            return [-30]
        self.events = left
        return [len(left)]

    def set(self, s):
        state = members(s)
        if not state <= self.all:
            return [-22]
        if self.failing(state, state):
            return [-30]
        before = self.state
        self.state = self.shadow = state
        return [number_of(before)]

    def now(self):
        return [number_of(self.state)]

    def shadow_now(self):
        return [number_of(self.shadow)]

    def otherwise(self):
        facts = sorted(self.state ^ self.shadow)
        return [len(facts)] + facts

    def behind(self, i):
        choices = self.deeds + [None]
        if i >= len(choices):
            return None, [-2]
        after = self.step(choices[i], self.state)
        if after is None:
            return None, [-6]
        return after, self.failing(after, self.step(None, self.shadow))

    def do(self, i):
        after, failing = self.behind(i)
        if after is None:
            return failing
        if failing:
            return [-30]
        if len(self.done) >= 30:
            return [-28]
        self.state = after
        self.shadow = self.step(None, self.shadow)
        self.done.append([i, number_of(after)])
        return self.now()

    def safe(self):
        found = [i for i in range(len(self.deeds) + 1) if self.behind(i)[1] == []]
        return [len(found)] + found

    def breaks(self, i):
        after, failing = self.behind(i)
        return failing if after is None else [len(failing)] + failing

    def promise(self, told):
        if told in self.promises:
            return [-17]
        others = self.promises
        self.promises = [told]
        fine = self.failing(self.state, self.shadow) == []
        self.promises = others
        if not fine:
            return [-30]
        if len(others) >= 4:
            return [-28]
        self.promises = others + [told]
        return [len(others)]

    def is_aim(self, a, w):
        return members(a) <= self.all and members(w) <= members(a)

    def promisefacts(self, a):
        return self.promise((0, a, 0, 0)) if members(a) <= self.all else [-22]

    def promiseaim(self, a, w, k):
        return self.promise((1, a, w, k)) if self.is_aim(a, w) and k <= 40 else [-22]

    def promiseis(self, i):
        return list(self.promises[i]) if i < len(self.promises) else [-2]

    def unpromise(self, i):
        if i >= len(self.promises):
            return [-2]
        self.promises = [told for number, told in enumerate(self.promises) if number != i]
        return [len(self.promises)]

    def steps_from(self, state, shadow):
        """The safe choices there, each with how it stands behind it."""
        known = self.known.get((state, shadow))
        if known is None:
            known = []
            for i, deed in enumerate(self.deeds + [None]):
                after = self.step(deed, state)
                if after is not None and not self.failing(after, self.step(None, shadow)):
                    known.append((i, after))
            self.known[state, shadow] = known
        return known

    def ends_in(self, ends, state, shadow, length):
        """Whether some row of just so many safe choices ends so."""
        key = (state, shadow, length)
        if key not in self.ended:
            if length == 0:
                self.ended[key] = ends(state, shadow)
            else:
                further = self.step(None, shadow)
                self.ended[key] = any(self.ends_in(ends, after, further, length - 1)
                                      for i, after in self.steps_from(state, shadow))
        return self.ended[key]

    def row(self, ends, most):
        """The length is found first, and then each choice by whether it can still end so from behind it."""
        self.known = {}
        self.ended = {}
        for length in range(most + 1):
            if self.ends_in(ends, self.state, self.shadow, length):
                return self.row_of(ends, length)
        return None

    def row_of(self, ends, length):
        state, shadow, found = self.state, self.shadow, []
        while length > 0:
            length -= 1
            further = self.step(None, shadow)
            i, state = next((i, after) for i, after in self.steps_from(state, shadow)
                            if self.ends_in(ends, after, further, length))
            shadow = further
            found.append(i)
        return found

    def planned(self, a, w, k):
        if not self.is_aim(a, w) or k > 10:
            return None, [-22]
        found = self.row(lambda state, shadow: state & members(a) == members(w), k)
        return found, [-33]

    def could(self, a, w, k):
        found, refusal = self.planned(a, w, k)
        return refusal if found is None else [len(found)]

    def plan(self, a, w, k):
        found, refusal = self.planned(a, w, k)
        return refusal if found is None else [len(found)] + found

    def run(self, a, w, k):
        found, refusal = self.planned(a, w, k)
        if found is None:
            return refusal
        if len(self.done) + len(found) > 30:
            return [-28]
        for i in found:
            self.do(i)
        return self.now() + [len(found)]

    def plainly(self, a, w):
        if not self.is_aim(a, w):
            return [-22]
        if not self.near((1, a, w, 32), self.state, self.deeds, self.events):
            return [-33]
        return [next(k for k in range(33) if self.near((1, a, w, k), self.state, self.deeds, self.events))]

    def lasts(self, k):
        if k > 10:
            return [-22]
        self.known = {}
        self.ended = {}
        return [int(self.ends_in(lambda state, shadow: True, self.state, self.shadow, k))]

    def restore(self, k):
        if k > 10:
            return [-22]
        found = self.row(lambda state, shadow: state == shadow, k)
        return [-33] if found is None else [len(found)] + found

    def entry(self, i):
        return self.done[i] if i < len(self.done) else [-2]

    def count(self):
        return [5, len(self.all), len(self.deeds), len(self.events), len(self.promises), len(self.done)]

    def answer(self, name, *arguments):
        return self.shadow_now() if name == "shadow" else getattr(self, name)(*arguments)


OFTEN = (
    "deed deed deed deed event event undeed unevent set breaks do do do do do do do do do do promisefacts promiseaim"
    " promiseaim promiseis unpromise unpromise could plan plan plan run run run plainly lasts restore restore entry"
).split()
REFUSALS = {
    "deed": (0, -22, -28), "event": (0, -22, -28, -30), "undeed": (0, -2, -30), "unevent": (0, -2, -30),
    "set": (0, -22, -30), "do": (0, -2, -6, -30, -28), "breaks": (0, -2, -6), "promisefacts": (0, -22, -17, -30, -28),
    "promiseaim": (0, -22, -17, -30, -28), "promiseis": (0, -2), "unpromise": (0, -2), "could": (0, -22, -33),
    "plan": (0, -22, -33), "run": (0, -22, -33, -28), "plainly": (0, -22, -33), "lasts": (0, -22),
    "restore": (0, -22, -33), "entry": (0, -2),
}
CHECKS = ("now", "shadow", "otherwise", "safe", "count")


def some_rule(numbers, size):
    a = numbers.below(1 << size) & numbers.below(1 << size)
    c = numbers.below(1 << size) & numbers.below(1 << size)
    return [a, a & numbers.below(1 << size), c, c & numbers.below(1 << size)]


RINGS = ((1, 0, 1, 1), (1, 1, 1, 0), (3, 1, 2, 2), (3, 3, 2, 0), (7, 2, 4, 4), (7, 6, 4, 0))


def some_ring(numbers, ring):
    """One of the deeds by which three rings are put on and off, with long ways between; facts 3 and 4 go with it."""
    a, b, c, d = ring
    beside = 24 & numbers.below(32) & numbers.below(32)
    return [a, b, c | beside, d | beside & numbers.below(32)]


def some_move(numbers):
    """A rule over few facts."""
    a = 1 << numbers.below(5) | 1 << numbers.below(5)
    c = 1 << numbers.below(5)
    return [a, a & numbers.below(32), c, c & numbers.below(32)]


def some_aim(numbers, size):
    a = (1 << size) - 1
    for _ in range(numbers.below(3)):
        a &= numbers.below(1 << size)
    return [a, a & numbers.below(1 << size)]


def some_arguments(name, numbers, size):
    if name in ("deed", "event"):
        return some_rule(numbers, size)
    if name == "set":
        return [numbers.below((1 << size) + 1)]
    if name == "promisefacts":
        return [numbers.below(1 << size) & numbers.below(1 << size)]
    if name == "promiseaim":
        return some_aim(numbers, size) + [(0, 1, 2, 3, 40, 41)[numbers.below(6)]]
    if name in ("could", "plan", "run"):
        return some_aim(numbers, size) + [numbers.below(12)]
    if name == "plainly":
        return some_aim(numbers, size)
    if name in ("lasts", "restore"):
        return [numbers.below(12)]
    return [numbers.below(6)]


def some_call(numbers, size):
    name = OFTEN[numbers.below(len(OFTEN))]
    arguments = some_arguments(name, numbers, size)
    if numbers.below(12) == 0:
        arguments[numbers.below(len(arguments))] = (LARGEST, 1 << size, numbers.below(40))[numbers.below(3)]
    return [name] + arguments


WORTH = [(name, refusal) for name, refusals in REFUSALS.items() for refusal in refusals]
WORTH_IN_PLANS = (
    "a long plan", "a plan that goes round", "a plan by waiting", "no plan but by breaking", "a long way back",
    "no way back", "it lasts", "it does not last",
)


def seen_in_plan(model, asked, expected):
    plainly = model.plainly(*asked[1:3])[0]
    found = []
    if expected[0] > 5:
        found.append("a long plan")
    if expected[0] > plainly:
        found.append("a plan that goes round")
    if expected[0] == -33 and 0 < plainly <= asked[3]:
        found.append("no plan but by breaking")
    if expected[0] > 2 and len(model.deeds) in expected[1:-1]:
        found.append("a plan by waiting")
    return found


def seen_in(model, asked, expected):
    """What of a call and its answer has to come up often enough, if the houses are worth their while."""
    if asked[0] == "plan":
        return seen_in_plan(model, asked, expected)
    if asked[0] == "restore" and expected[0] > 2:
        return ["a long way back"]
    if asked[0] == "restore" and expected[0] == -33:
        return ["no way back"]
    if asked[0] == "lasts" and asked[1] > 2:
        return ["it lasts" if expected[0] == 1 else "it does not last"]
    return []


class AgainstModel(unittest.TestCase):
    def compare(self, home, model, asked):
        expected = model.answer(*asked)
        self.assertEqual(home.call(asked), expected, (self.seed, asked))
        return expected

    def try_house(self, seed, seen):
        self.seed = seed
        numbers = Numbers(seed)
        size = 2 + numbers.below(4)
        home = Home(f"begin {size}")
        model = Model(size)
        for _ in range(200):
            call = some_call(numbers, size)
            seen.add((call[0], min(0, self.compare(home, model, call)[0])))
            for name in CHECKS:
                self.compare(home, model, [name])
            self.assertEqual(model.failing(model.state, model.shadow), [], seed)

    def test_many_houses(self):
        seen = set()
        for seed in range(200):
            self.try_house(seed, seen)
        self.assertEqual([thing for thing in WORTH if thing not in seen], [])

    def try_plans(self, seed, seen):
        self.seed = seed
        numbers = Numbers(seed)
        home = Home("begin 5")
        model = Model(5)

        def ask(*asked):
            seen.extend(seen_in(model, asked, self.compare(home, model, asked)))

        left_out = numbers.below(12)
        for number, ring in enumerate(RINGS):
            ask("deed", *(some_move(numbers) if number == left_out else some_ring(numbers, ring)))
        for _ in range(numbers.below(4)):
            ask("event", *some_move(numbers))
        ask("set", numbers.below(32))
        for _ in range(numbers.below(10)):
            ask("do", numbers.below(7))
        ask("promisefacts", 8 << numbers.below(2))
        for _ in range(2):
            ask("promiseaim", *some_aim(numbers, 5), 1 + numbers.below(8))
        for steps in (1, 3, 10):
            ask("lasts", steps)
            ask("restore", steps)
        for _ in range(10):
            ask("plan", *some_aim(numbers, 5), 5 + numbers.below(6))
        ask("run", *some_aim(numbers, 5), 10)
        for name in CHECKS:
            ask(name)

    def test_many_plans(self):
        seen = []
        for seed in range(1000):
            self.try_plans(seed, seen)
        self.assertEqual([thing for thing in WORTH_IN_PLANS if seen.count(thing) < 3], [])

    def test_whole_lists_of_calls(self):
        for seed in range(1000, 1100):
            numbers = Numbers(seed)
            size = 2 + numbers.below(4)
            model = Model(size)
            calls = [["begin", size]]
            expected = [[0]]
            while len(calls) < 60 and len(flat(calls)) < 396:
                again = numbers.below(50) == 0
                calls.append(["begin", size + numbers.below(2)] if again else some_call(numbers, size))
                expected.append(model.answer(*calls[-1]))
            self.assertEqual(split(answers(flat(calls))), expected, seed)


class EveryRow(unittest.TestCase):
    """Plans and restoring of a few steps beside all rows of so many choices, done one by one."""

    STEPS = 3

    def made(self, numbers, size):
        calls = [["begin", size]]
        for name in ("deed", "deed", "deed", "event", "event", "do", "do", "promisefacts", "promiseaim"):
            calls.append([name] + some_arguments(name, numbers, size))
        return calls

    def outcomes(self, calls):
        """For each row that can be done from behind the calls, shorter and lesser ones first, now and shadow."""
        deeds = split(answers(flat(calls + [["count"]])))[-1][2]
        found = []
        for length in range(self.STEPS + 1):
            for row in itertools.product(range(deeds + 1), repeat=length):
                asked = calls + [["do", choice] for choice in row]
                given = split(answers(flat(asked + [["now"], ["shadow"]])))
                if all(answer[0] >= 0 for answer in given[len(calls):]):
                    found.append((row, given[-2][0], given[-1][0]))
        return found

    def expect(self, calls, asked, rows):
        expected = [len(rows[0])] + list(rows[0]) if rows else [-33]
        self.assertEqual(split(answers(flat(calls + [asked])))[-1], expected, (calls, asked))

    def test_rows(self):
        for seed in range(60):
            numbers = Numbers(seed)
            size = 2 + numbers.below(4)
            calls = self.made(numbers, size)
            outcomes = self.outcomes(calls)
            self.expect(calls, ["restore", self.STEPS], [row for row, now, shadow in outcomes if now == shadow])
            for _ in range(6):
                a, w = some_aim(numbers, size)
                rows = [row for row, now, shadow in outcomes if now & a == w]
                self.expect(calls, ["plan", a, w, self.STEPS], rows)
            for steps in range(self.STEPS + 1):
                lasting = any(len(row) == steps for row, now, shadow in outcomes)
                self.assertEqual(split(answers(flat(calls + [["lasts", steps]])))[-1], [int(lasting)])


if __name__ == "__main__":
    unittest.main()
