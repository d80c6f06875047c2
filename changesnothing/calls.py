"""What each call does to a house, and the numbers that it answers."""

from changesnothing.plans import can_last, shortest_row
from changesnothing.promises import AIM_IS_NEAR, FACTS_STAY, broken, holds
from changesnothing.rules import Rule, Rules, is_aim, is_rule, is_within

NONE_SUCH = -2
CANNOT_BE_DONE = -6
NOT_BEGUN = -11
PROMISED_ALREADY = -17
ILL_TOLD = -22
FULL = -28
PROMISE_BROKEN = -30
NO_WAY = -33

BEGIN = 0
LEAST_FACTS = 2
MOST_FACTS = 5
MOST_DEEDS = 6
MOST_EVENTS = 3
MOST_DONE = 30
MOST_PROMISES = 4
MOST_PROMISED_STEPS = 40
MOST_PLANNED_STEPS = 10


def told(numbers):
    return [len(numbers)] + numbers


def without(members, number):
    return members[:number] + members[number + 1:]


def change_rules(house, rules, answer):
    if broken(house.promises, rules, house.state, house.shadow):
        return [PROMISE_BROKEN]
    house.rules = rules
    return [answer]


def begin(house, arguments):
    size = arguments[0]
    if size < LEAST_FACTS or size > MOST_FACTS:
        return [ILL_TOLD]
    house.restart((1 << size) - 1)
    return [0]


def read_rule(house, arguments):
    """The deed or event that is told, or None if it's none."""
    looks = arguments[0]
    needs = arguments[1]
    turns = arguments[2]
    makes = arguments[3]
    if not is_rule(looks, needs, turns, makes, house.facts):
        return None
    return Rule(looks, needs, turns, makes)


def add_deed(house, arguments):
    rule = read_rule(house, arguments)
    if rule is None:
        return [ILL_TOLD]
    deeds = house.rules.deeds
    if len(deeds) == MOST_DEEDS:
        return [FULL]
    # One more deed makes no aim farther, so no promise is asked here.
    house.rules = Rules(deeds + [rule], house.rules.events)
    return [len(deeds)]


def add_event(house, arguments):
    rule = read_rule(house, arguments)
    if rule is None:
        return [ILL_TOLD]
    events = house.rules.events
    if len(events) == MOST_EVENTS:
        return [FULL]
    return change_rules(house, Rules(house.rules.deeds, events + [rule]), len(events))


def take_deed(house, arguments):
    deeds = house.rules.deeds
    if arguments[0] >= len(deeds):
        return [NONE_SUCH]
    left = without(deeds, arguments[0])
    return change_rules(house, Rules(left, house.rules.events), len(left))


def take_event(house, arguments):
    events = house.rules.events
    if arguments[0] >= len(events):
        return [NONE_SUCH]
    left = without(events, arguments[0])
    return change_rules(house, Rules(house.rules.deeds, left), len(left))


def set_state(house, arguments):
    state = arguments[0]
    if not is_within(state, house.facts):
        return [ILL_TOLD]
    if broken(house.promises, house.rules, state, state):
        return [PROMISE_BROKEN]
    before = house.state
    house.state = state
    house.shadow = state
    return [before]


def tell_state(house, arguments):
    return [house.state]


def tell_shadow(house, arguments):
    return [house.shadow]


def tell_otherwise(house, arguments):
    differing = house.state ^ house.shadow
    return told([fact for fact in range(house.facts.bit_length()) if (differing >> fact) & 1 == 1])


def refused_choice(house, choice):
    """The refusal of a choice that isn't there or can't be done now, or None."""
    if not house.rules.is_choice(choice):
        return NONE_SUCH
    if not house.rules.can_do(choice, house.state):
        return CANNOT_BE_DONE
    return None


def do_choice(house, arguments):
    choice = arguments[0]
    refusal = refused_choice(house, choice)
    if refusal is not None:
        return [refusal]
    if house.broken_by(choice):
        return [PROMISE_BROKEN]
    if len(house.log) == MOST_DONE:
        return [FULL]
    house.go(choice)
    return [house.state]


def tell_safe(house, arguments):
    return told([choice for choice in house.rules.choices(house.state) if not house.broken_by(choice)])


def tell_breaks(house, arguments):
    refusal = refused_choice(house, arguments[0])
    if refusal is not None:
        return [refusal]
    return told(house.broken_by(arguments[0]))


def add_promise(house, promise):
    if promise in house.promises:
        return [PROMISED_ALREADY]
    if not holds(promise, house.rules, house.state, house.shadow):
        return [PROMISE_BROKEN]
    number = len(house.promises)
    if number == MOST_PROMISES:
        return [FULL]
    house.promises = house.promises + [promise]
    return [number]


def promise_facts(house, arguments):
    if not is_within(arguments[0], house.facts):
        return [ILL_TOLD]
    return add_promise(house, (FACTS_STAY, arguments[0], 0, 0))


def promise_aim(house, arguments):
    aimed = arguments[0]
    wanted = arguments[1]
    steps = arguments[2]
    if not is_aim(aimed, wanted, house.facts) or steps > MOST_PROMISED_STEPS:
        return [ILL_TOLD]
    return add_promise(house, (AIM_IS_NEAR, aimed, wanted, steps))


def tell_promise(house, arguments):
    if arguments[0] >= len(house.promises):
        return [NONE_SUCH]
    return list(house.promises[arguments[0]])


def take_promise(house, arguments):
    if arguments[0] >= len(house.promises):
        return [NONE_SUCH]
    house.promises = without(house.promises, arguments[0])
    return [len(house.promises)]


def with_row(house, steps, ends, answer):
    """What is answered of the row that ends so, or the refusal if there is none."""
    row = shortest_row(house, steps, ends)
    if row is None:
        return [NO_WAY]
    return answer(row)


def with_plan(house, arguments, answer):
    aimed = arguments[0]
    wanted = arguments[1]
    steps = arguments[2]
    if not is_aim(aimed, wanted, house.facts) or steps > MOST_PLANNED_STEPS:
        return [ILL_TOLD]
    return with_row(house, steps, lambda state, shadow: state & aimed == wanted, answer)


def tell_could(house, arguments):
    return with_plan(house, arguments, lambda row: [len(row)])


def tell_plan(house, arguments):
    return with_plan(house, arguments, told)


def run_row(house, row):
    if len(house.log) + len(row) > MOST_DONE:
        return [FULL]
    for choice in row:
        house.go(choice)
    return [house.state, len(row)]


def run_plan(house, arguments):
    return with_plan(house, arguments, lambda row: run_row(house, row))


def tell_plainly(house, arguments):
    if not is_aim(arguments[0], arguments[1], house.facts):
        return [ILL_TOLD]
    steps = house.rules.fewest_steps(house.state, arguments[0], arguments[1])
    if steps is None:
        return [NO_WAY]
    return [steps]


def tell_lasts(house, arguments):
    if arguments[0] > MOST_PLANNED_STEPS:
        return [ILL_TOLD]
    return [1 if can_last(house, arguments[0]) else 0]


def tell_restore(house, arguments):
    if arguments[0] > MOST_PLANNED_STEPS:
        return [ILL_TOLD]
    return with_row(house, arguments[0], lambda state, shadow: state == shadow, told)


def tell_entry(house, arguments):
    if arguments[0] >= len(house.log):
        return [NONE_SUCH]
    return list(house.log[arguments[0]])


def tell_count(house, arguments):
    rules = house.rules
    size = house.facts.bit_length()
    return told([size, len(rules.deeds), len(rules.events), len(house.promises), len(house.log)])


PERFORMERS = {
    0: begin,
    1: add_deed,
    2: add_event,
    3: take_deed,
    4: take_event,
    5: set_state,
    6: tell_state,
    7: tell_shadow,
    8: tell_otherwise,
    9: do_choice,
    10: tell_safe,
    11: tell_breaks,
    12: promise_facts,
    13: promise_aim,
    14: tell_promise,
    15: take_promise,
    16: tell_could,
    17: tell_plan,
    18: run_plan,
    19: tell_plainly,
    20: tell_lasts,
    21: tell_restore,
    22: tell_entry,
    23: tell_count,
}


def perform(house, number, arguments):
    """The numbers that one call answers."""
    if number != BEGIN and house.facts == 0:
        return [NOT_BEGUN]
    performer = PERFORMERS[number]
    return performer(house, arguments)
