"""Rows of safe choices, looked at one choice further at a time."""

from changesnothing.promises import broken


def one_choice_further(rules, rows):
    """For each state one step behind rows, the first row to it."""
    further = {}
    for state, row in rows.items():
        for choice in rules.choices(state):
            reached = rules.step(choice, state)
            # The rows stand in their order and so do the choices: what comes first here is the first of all.
            if reached not in further:
                further[reached] = row + [choice]
    return further


class Outlook:
    """For each state to which rows of so many safe choices lead, the first of them; and how it would be by itself."""

    def __init__(self, house):
        self.promises = house.promises
        self.rules = house.rules
        self.shadow = house.shadow
        self.rows = {house.state: []}
        self.length = 0

    def go_on(self):
        self.shadow = self.rules.step(self.rules.waiting(), self.shadow)
        kept = {}
        for state, row in one_choice_further(self.rules, self.rows).items():
            if not broken(self.promises, self.rules, state, self.shadow):
                kept[state] = row
        # States of shorter rows are not left out: what is safe there may be otherwise by now.
        self.rows = kept
        self.length = self.length + 1

    def first_row(self, ends):
        for state, row in self.rows.items():
            if ends(state, self.shadow):
                return row
        return None


def shortest_row(house, most, ends):
    """Of the shortest rows of safe choices, at most so many, that end so, the first, or None if there is none."""
    outlook = Outlook(house)
    row = outlook.first_row(ends)
    while row is None and outlook.length < most:
        outlook.go_on()
        row = outlook.first_row(ends)
    return row


def can_last(house, length):
    """Whether some row of just so many safe choices can be done."""
    outlook = Outlook(house)
    while outlook.length < length:
        outlook.go_on()
    return len(outlook.rows) > 0
