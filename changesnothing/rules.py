"""Deeds, events and the steps that they make."""


class Rule:
    """A deed or an event: of the facts in looks just those in needs are so; of those in turns just makes become so."""

    def __init__(self, looks, needs, turns, makes):
        self.looks = looks
        self.needs = needs
        self.turns = turns
        self.makes = makes

    def fits(self, state):
        return state & self.looks == self.needs

    def applied(self, state):
        return state & ~self.turns | self.makes


class Rules:
    """The deeds and events of a house. A change makes new Rules, so that it can be weighed before it is taken."""

    def __init__(self, deeds, events):
        self.deeds = deeds
        self.events = events
        # By how many steps aims can be come to, as far as it was asked: plans ask it again and again.
        self.known = {}

    def waiting(self):
        return len(self.deeds)

    def is_choice(self, number):
        return number <= self.waiting()

    def can_do(self, choice, state):
        return choice == self.waiting() or self.deeds[choice].fits(state)

    def choices(self, state):
        return [choice for choice in range(self.waiting() + 1) if self.can_do(choice, state)]

    def step(self, choice, state):
        reached = state
        if choice != self.waiting():
            reached = self.deeds[choice].applied(reached)
        for event in self.events:
            if event.fits(reached):
                reached = event.applied(reached)
        return reached

    def unseen_behind(self, front, seen):
        """The states one step behind front that aren't in seen yet; they are put into it."""
        found = []
        for state in front:
            for choice in self.choices(state):
                reached = self.step(choice, state)
                if reached not in seen:
                    seen[reached] = True
                    found.append(reached)
        return found

    def fewest_steps(self, state, facts, wanted):
        """By how many steps the aim can be come to from state, or None if it can't."""
        asked = (state, facts, wanted)
        if asked not in self.known:
            self.known[asked] = self.count_steps(state, facts, wanted)
        return self.known[asked]

    def count_steps(self, state, facts, wanted):
        seen = {state: True}
        front = [state]
        steps = 0
        while front:
            if any([reached & facts == wanted for reached in front]):
                return steps
            front = self.unseen_behind(front, seen)
            steps = steps + 1
        return None


def is_within(part, whole):
    return part & whole == part


def is_aim(aimed, wanted, facts):
    """Whether these two numbers tell an aim over the set of all facts."""
    return is_within(aimed, facts) and is_within(wanted, aimed)


def is_rule(looks, needs, turns, makes, facts):
    """Whether these four numbers tell a deed or an event over the set of all facts."""
    if not is_within(looks, facts) or not is_within(turns, facts):
        return False
    return turns != 0 and is_within(needs, looks) and is_within(makes, turns)
