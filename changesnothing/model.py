"""How a house stands, and how it would by itself."""

from changesnothing.promises import broken
from changesnothing.rules import Rules


class House:
    """A house. Its facts are the set of all of them; none means that it wasn't begun."""

    def __init__(self):
        self.restart(0)

    def restart(self, facts):
        self.facts = facts
        self.rules = Rules([], [])
        self.promises = []
        self.state = 0
        # Kept step by step: a later change of the events doesn't reach back to the steps done before it.
        self.shadow = 0
        self.log = []

    def broken_by(self, choice):
        """The promises that wouldn't hold behind a choice that can be done."""
        rules = self.rules
        return broken(self.promises, rules, rules.step(choice, self.state), rules.step(rules.waiting(), self.shadow))

    def go(self, choice):
        self.state = self.rules.step(choice, self.state)
        self.shadow = self.rules.step(self.rules.waiting(), self.shadow)
        self.log.append((choice, self.state))
