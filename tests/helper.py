"""Calls by their names, for the tests."""

from changesnothing.calls import perform
from changesnothing.house import answers
from changesnothing.model import House

NAMES = (
    "begin deed event undeed unevent set now shadow otherwise do safe breaks promisefacts promiseaim promiseis"
    " unpromise could plan run plainly lasts restore entry count"
).split()
ARGUMENTS = (1, 4, 4, 1, 1, 1, 0, 0, 0, 1, 0, 1, 1, 3, 1, 1, 3, 3, 3, 2, 1, 1, 1, 0)
LARGEST = 4294967295


def flat(calls):
    numbers = []
    for call in calls:
        words = call.split() if isinstance(call, str) else call
        numbers.append(NAMES.index(words[0]))
        numbers.extend(int(word) for word in words[1:])
    return numbers


def split(given):
    found = []
    place = 0
    while place < len(given):
        behind = place + 1 + given[place]
        found.append(given[place + 1:behind])
        place = behind
    return found


def ask(*calls):
    """What each call answers, as a list of numbers for each; a call is a text such as "deed 0 0 1 1"."""
    return split(answers(flat(calls)))


def last(*calls):
    return ask(*calls)[-1]


class Promised:
    """A house that is begun, to which promises can be put in directly."""

    def __init__(self, *calls):
        self.house = House()
        for call in calls:
            answer = self.call(call)
            if answer[0] < 0:
                raise ValueError(f"{call} is answered {answer}")

    def call(self, text):
        numbers = flat([text])
        return perform(self.house, numbers[0], numbers[1:])

    def promise(self, *promises):
        self.house.promises = list(promises)
        return self

    def stands(self):
        house = self.house
        rules = [
            (rule.looks, rule.needs, rule.turns, rule.makes)
            for rule in house.rules.deeds + house.rules.events
        ]
        counts = (len(house.rules.deeds), len(house.rules.events))
        return house.facts, rules, counts, list(house.promises), house.state, house.shadow, list(house.log)
