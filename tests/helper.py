"""Calls by their names, for the tests."""

import unittest

from changesnothing.calls import perform
from changesnothing.house import answers
from changesnothing.model import House

NAMES = (
    "begin deed event undeed unevent set now shadow otherwise do safe breaks promisefacts promiseaim promiseis"
    " unpromise could plan run plainly lasts restore entry count"
).split()
ARGUMENTS = (1, 4, 4, 1, 1, 1, 0, 0, 0, 1, 0, 1, 1, 3, 1, 1, 3, 3, 3, 2, 1, 1, 1, 0)
LARGEST = 4294967295


def flat(calls):
    numbers = []
    for call in calls:
        words = call.split() if isinstance(call, str) else call
        numbers.append(NAMES.index(words[0]))
        numbers.extend(int(word) for word in words[1:])
    return numbers


def split(given):
    found = []
    place = 0
    while place < len(given):
        behind = place + 1 + given[place]
        found.append(given[place + 1:behind])
        place = behind
    return found


def ask(*calls):
    """What each call answers, as a list of numbers for each; a call is a text such as "deed 0 0 1 1"."""
    return split(answers(flat(calls)))


def last(*calls):
    return ask(*calls)[-1]


def counter(size):
    """The calls that begin a house which counts up by one with each deed that can be done, one deed for each fact."""
    rows = [f"begin {size}"]
    for fact in range(size):
        below = (1 << fact) - 1
        turned = below | 1 << fact
        rows.append(f"deed {turned} {below} {turned} {1 << fact}")
    return rows


class Home:
    """A house that is kept, so that one can look at it between the calls."""

    def __init__(self, *calls):
        self.house = House()
        self.does(*calls)

    def does(self, *calls):
        for call in calls:
            answer = self.call(call)
            if answer[0] < 0:
                raise ValueError(f"{call} is answered {answer}")
        return self

    def call(self, text):
        numbers = flat([text])
        return perform(self.house, numbers[0], numbers[1:])

    def stands(self):
        house = self.house
        rules = [
            (rule.looks, rule.needs, rule.turns, rule.makes)
            for rule in house.rules.deeds + house.rules.events
        ]
        counts = (len(house.rules.deeds), len(house.rules.events))
        return house.facts, rules, counts, list(house.promises), house.state, house.shadow, list(house.log)


class HomeCase(unittest.TestCase):
    def answered(self, home, *pairs):
        """Calls and what is answered of them, in turn."""
        for call, answer in pairs:
            self.assertEqual(home.call(call), answer, call)

    def unchanged(self, home, *pairs):
        """Likewise, and nothing is changed by any of them."""
        before = home.stands()
        for call, answer in pairs:
            self.assertEqual(home.call(call), answer, call)
            self.assertEqual(home.stands(), before, call)
