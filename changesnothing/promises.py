"""Whether promises hold. A promise is a tuple: its kind, its facts, those that are to be so, its steps."""

FACTS_STAY = 0
AIM_IS_NEAR = 1


def holds(promise, rules, state, shadow):
    facts = promise[1]
    if promise[0] == FACTS_STAY:
        return (state ^ shadow) & facts == 0
    steps = rules.fewest_steps(state, facts, promise[2])
    return steps is not None and steps <= promise[3]


def broken(promises, rules, state, shadow):
    """The numbers of the promises that don't hold, rising."""
    return [number for number, promise in enumerate(promises) if not holds(promise, rules, state, shadow)]
