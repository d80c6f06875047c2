"""could, plan, run, plainly."""

import unittest

from helper import LARGEST, Home, HomeCase, ask, counter, last

WRONG_AIMS = ("8 0", "8 8", "15 1", f"{LARGEST} 0", f"{LARGEST} {LARGEST}", "1 2", "1 3", "0 1", f"7 {LARGEST}", "7 8",
              "6 1")
CHAIN = ("begin 3", "deed 1 0 1 1", "deed 3 1 2 2", "deed 7 3 4 4")
# By the first deed fact 2 comes at once, but fact 0 with it; by the others it comes in three, without.
ROUND = ("begin 4", "deed 0 0 5 5", "deed 0 0 2 2", "deed 2 2 8 8", "deed 8 8 4 4")


def planned(home, aim):
    """What could and plan answer of an aim; they have to agree."""
    could = home.call(f"could {aim}")
    plan = home.call(f"plan {aim}")
    if could[:1] != plan[:1] or (plan[0] >= 0 and len(plan) != plan[0] + 1):
        raise ValueError(f"{aim}: {could} beside {plan}")
    return plan


class Plan(HomeCase):
    def test_a_row_that_ends_with_the_aim(self):
        home = Home(*CHAIN)
        self.unchanged(home, ("plan 7 7 3", [3, 0, 1, 2]), ("could 7 7 3", [3]), ("plan 3 3 10", [2, 0, 1]),
                       ("could 3 3 10", [2]), ("plan 6 2 5", [2, 0, 1]))

    def test_too_few_steps(self):
        home = Home(*CHAIN)
        for steps in (0, 1, 2):
            self.unchanged(home, (f"plan 7 7 {steps}", [-33]), (f"could 7 7 {steps}", [-33]))

    def test_what_can_never_be_come_to(self):
        self.unchanged(Home(*CHAIN), ("plan 6 4 10", [-33]), ("could 6 4 10", [-33]))

    def test_of_no_choices(self):
        home = Home(*CHAIN, "do 0")
        for aim in ("1 1 0", "1 1 10", "7 1 0", "0 0 0", "0 0 10", "6 0 3"):
            self.unchanged(home, (f"plan {aim}", [0]), (f"could {aim}", [0]))

    def test_of_no_choices_where_nothing_is_safe(self):
        home = Home("begin 2", "deed 0 0 1 1", "do 0", "event 1 1 2 2", "promisefacts 2")
        self.unchanged(home, ("safe", [0]), ("plan 1 1 10", [0]), ("plan 1 0 10", [-33]), ("could 2 2 10", [-33]))

    def test_what_is_ill_told(self):
        home = Home(*CHAIN)
        for wrong in WRONG_AIMS:
            for steps in (0, 10, 11):
                self.unchanged(home, (f"plan {wrong} {steps}", [-22]), (f"could {wrong} {steps}", [-22]))

    def test_ten_steps_and_more(self):
        home = Home(*counter(4))
        self.unchanged(home, ("could 15 10 10", [10]), ("plan 15 10 10", [10, 0, 1, 0, 2, 0, 1, 0, 3, 0, 1]))
        self.unchanged(home, ("could 15 10 9", [-33]), ("could 15 11 10", [-33]), ("plan 15 11 10", [-33]))
        for steps in (11, 12, 40, LARGEST):
            for aim in ("15 10", "15 11", "0 0"):
                self.unchanged(home, (f"could {aim} {steps}", [-22]), (f"plan {aim} {steps}", [-22]))

    def test_waiting_is_a_choice(self):
        home = Home("begin 3", "event 2 2 4 4", "event 1 1 2 2", "deed 0 0 1 1")
        self.assertEqual(planned(home, "4 4 5"), [2, 0, 0])
        home = Home("begin 3", "event 2 2 4 4", "event 1 1 2 2", "deed 1 0 1 1")
        self.assertEqual(planned(home, "4 4 5"), [2, 0, 1])

    def test_from_how_it_stands_now(self):
        home = Home(*CHAIN, "do 0", "do 1")
        self.assertEqual(planned(home, "7 7 10"), [1, 2])

    def test_an_event_undoes_at_once_what_it_takes(self):
        self.assertEqual(planned(Home("begin 2", "deed 0 0 1 1", "event 1 1 1 0"), "1 1 10"), [-33])

    def test_more_steps_than_needed_change_nothing(self):
        home = Home(*CHAIN)
        self.assertEqual({tuple(planned(home, f"7 7 {steps}")) for steps in range(3, 11)}, {(3, 0, 1, 2)})

    def test_it_does_not_hang_on_the_log(self):
        home = Home(*CHAIN, *["do 3"] * 30)
        self.unchanged(home, ("plan 7 7 3", [3, 0, 1, 2]), ("could 7 7 3", [3]))


class TheFirstPlan(HomeCase):
    def test_of_like_deeds_the_lesser(self):
        home = Home("begin 2", "deed 1 1 2 2", "deed 0 0 1 1", "deed 0 0 1 1")
        self.assertEqual(planned(home, "1 1 3"), [1, 1])

    def test_where_two_first_differ(self):
        home = Home("begin 3", "deed 0 0 2 2", "deed 0 0 1 1", "deed 0 0 4 4")
        self.assertEqual(planned(home, "3 3 5"), [2, 0, 1])
        self.assertEqual(planned(home, "7 7 5"), [3, 0, 1, 2])
        self.assertEqual(planned(home, "5 5 5"), [2, 1, 2])

    def test_the_first_difference_counts_and_not_the_last(self):
        # The rows 0, 3 and 1, 2 both lead there.
        home = Home("begin 4", "deed 0 0 1 1", "deed 0 0 2 2", "deed 2 2 8 8", "deed 1 1 8 8")
        self.assertEqual(planned(home, "8 8 5"), [2, 0, 3])

    def test_the_fewest_choices_go_before_the_lesser(self):
        home = Home("begin 3", "deed 0 0 1 1", "deed 1 1 4 4", "deed 0 0 4 4")
        self.assertEqual(planned(home, "4 4 5"), [1, 2])

    def test_waiting_goes_last(self):
        home = Home("begin 2", "event 0 0 1 1", "deed 2 2 2 0", "deed 0 0 2 2", "deed 0 0 1 0")
        self.assertEqual(planned(home, "1 1 5"), [1, 1])
        self.assertEqual(planned(home, "3 1 5"), [1, 2])

    def test_by_a_state_that_two_rows_lead_to(self):
        home = Home("begin 4", "deed 2 2 1 1", "deed 1 1 2 2", "deed 0 0 2 2", "deed 0 0 1 1", "deed 3 3 8 8")
        self.assertEqual(planned(home, "8 8 5"), [3, 2, 0, 4])

    def test_of_those_that_are_safe(self):
        rules = ("begin 3", "deed 0 0 5 5", "deed 0 0 4 4", "deed 0 0 4 4")
        self.assertEqual(planned(Home(*rules), "4 4 5"), [1, 0])
        self.assertEqual(planned(Home(*rules, "promisefacts 1"), "4 4 5"), [1, 1])


class PlanUnderPromises(HomeCase):
    def test_longer_than_plainly(self):
        home = Home(*ROUND)
        self.unchanged(home, ("plan 4 4 10", [1, 0]), ("plainly 4 4", [1]))
        home.does("promisefacts 1")
        self.unchanged(home, ("plan 4 4 10", [3, 1, 2, 3]), ("could 4 4 10", [3]), ("could 4 4 3", [3]),
                       ("could 4 4 2", [-33]), ("plainly 4 4", [1]))
        home.does("unpromise 0")
        self.unchanged(home, ("plan 4 4 10", [1, 0]))

    def test_none_but_by_breaking(self):
        home = Home("begin 2", "deed 0 0 3 3", "promisefacts 1")
        self.unchanged(home, ("plan 2 2 10", [-33]), ("could 2 2 10", [-33]), ("plainly 2 2", [1]))

    def test_otherwise_only_on_the_way(self):
        # By way of fact 0, which is put back behind it, or by a longer one.
        rules = ("begin 4", "deed 0 0 1 1", "deed 1 1 5 4", "deed 0 0 2 2", "deed 2 2 8 8", "deed 8 8 4 4")
        self.assertEqual(planned(Home(*rules), "5 4 10"), [2, 0, 1])
        self.assertEqual(planned(Home(*rules, "promisefacts 1"), "5 4 10"), [3, 2, 3, 4])
        self.assertEqual(planned(Home(*rules, "promisefacts 3"), "5 4 10"), [-33])

    def test_an_aim_stays_in_reach(self):
        # The first deed leads there at once, but from behind it fact 0 never comes.
        rules = ("begin 3", "deed 1 0 6 6", "deed 2 0 1 1", "deed 1 1 4 4")
        self.assertEqual(planned(Home(*rules), "4 4 10"), [1, 0])
        self.assertEqual(planned(Home(*rules, "promiseaim 1 1 1"), "4 4 10"), [2, 1, 2])

    def test_an_aim_stays_in_reach_all_the_way(self):
        # Behind the first deed the way back takes two steps.
        rules = ("begin 3", "deed 4 0 1 1", "deed 1 1 4 4", "deed 5 5 1 0", "deed 5 4 4 0")
        for steps, answer in ((0, [-33]), (1, [-33]), (2, [-33]), (3, [2, 0, 1]), (40, [2, 0, 1])):
            self.assertEqual(planned(Home(*rules, f"promiseaim 7 0 {steps}"), "5 5 10"), answer)
        self.assertEqual(planned(Home(*rules, "promiseaim 4 0 1"), "5 5 10"), [-33])
        self.assertEqual(planned(Home(*rules, "promiseaim 4 0 2"), "5 5 10"), [2, 0, 1])

    def test_the_last_choice_has_to_be_safe_too(self):
        home = Home("begin 3", "deed 0 0 2 2", "deed 2 2 5 5", "promisefacts 1")
        self.assertEqual(planned(home, "2 2 10"), [1, 0])
        self.assertEqual(planned(home, "4 4 10"), [-33])

    def test_what_would_be_by_itself_goes_on(self):
        # Fact 0 comes by itself behind two steps, and only then the deed leaves it as it would be.
        home = Home("begin 3", "event 2 2 1 1", "event 0 0 2 2", "deed 0 0 5 5", "promisefacts 1")
        self.unchanged(home, ("safe", [1, 1]), ("plan 4 4 10", [2, 1, 0]), ("could 4 4 1", [-33]), ("plainly 4 4", [1]))
        self.answered(home, ("run 4 4 2", [7, 2]), ("otherwise", [1, 2]))

    def test_the_same_state_at_another_time(self):
        # Where fact 4 is so nothing happens by itself; else fact 1 comes, then fact 2, then fact 0.
        home = Home("begin 5", "event 20 4 1 1", "event 18 2 4 4", "event 16 0 2 2", "deed 0 0 16 16", "do 0",
                    "deed 0 0 9 9", "promisefacts 1")
        self.unchanged(home, ("now", [16]), ("shadow", [2]), ("breaks 1", [1, 0]), ("could 8 8 1", [-33]))
        self.assertEqual(planned(home, "8 8 2"), [2, 0, 1])
        self.answered(home, ("do 2", [16]), ("shadow", [6]), ("plan 8 8 10", [1, 1]), ("do 1", [25]), ("shadow", [7]))

    def test_a_plan_breaks_nothing_on_its_way(self):
        home = Home(*ROUND, "promisefacts 1", "promiseaim 2 0 0")
        self.assertEqual(planned(home, "4 4 10"), [-33])
        home.does("unpromise 1")
        for choice in planned(home, "4 4 10")[1:]:
            self.answered(home, (f"breaks {choice}", [0]))
            home.does(f"do {choice}")
        self.answered(home, ("now", [14]), ("otherwise", [3, 1, 2, 3]))


class Run(HomeCase):
    def test_it_does_what_is_planned(self):
        home = Home(*ROUND, "promisefacts 1")
        plan = home.call("plan 4 4 10")
        self.answered(home, ("run 4 4 10", [14, 3]), ("now", [14]), ("shadow", [0]), ("otherwise", [3, 1, 2, 3]),
                      ("count", [5, 4, 4, 0, 1, 3]))
        self.assertEqual([home.call(f"entry {number}") for number in range(4)], [[1, 2], [2, 10], [3, 14], [-2]])
        self.assertEqual(plan, [3, 1, 2, 3])

    def test_as_if_each_choice_were_done(self):
        rules = ("begin 3", "event 2 2 4 4", "event 1 1 2 2", "deed 1 0 1 1", "do 1")
        home = Home(*rules)
        other = Home(*rules)
        plan = home.call("plan 4 4 5")
        self.answered(home, ("run 4 4 5", [7, 2]))
        other.does(*[f"do {choice}" for choice in plan[1:]])
        self.assertEqual(home.stands(), other.stands())

    def test_of_no_choices(self):
        home = Home(*CHAIN, "do 0")
        self.unchanged(home, ("run 1 1 0", [1, 0]), ("run 0 0 10", [1, 0]))

    def test_no_plan(self):
        self.unchanged(Home(*CHAIN), ("run 7 7 2", [-33]), ("run 6 4 10", [-33]), ("run 1 1 0", [-33]))
        self.unchanged(Home("begin 2", "deed 0 0 3 3", "promisefacts 1"), ("run 2 2 10", [-33]))

    def test_what_is_ill_told(self):
        home = Home(*CHAIN)
        for wrong in WRONG_AIMS:
            self.unchanged(home, (f"run {wrong} 10", [-22]), (f"run {wrong} 11", [-22]))
        for steps in (11, 12, LARGEST):
            self.unchanged(home, (f"run 1 1 {steps}", [-22]), (f"run 0 0 {steps}", [-22]))

    def test_ten_choices(self):
        self.answered(Home(*counter(4)), ("run 15 10 9", [-33]), ("run 15 10 10", [10, 10]), ("entry 9", [1, 10]),
                      ("entry 10", [-2]))

    def test_thirty_in_the_log_are_allowed(self):
        home = Home(*counter(4), *["do 4"] * 20)
        self.answered(home, ("run 15 10 10", [10, 10]), ("count", [5, 4, 4, 0, 0, 30]), ("do 4", [-28]))
        self.unchanged(home, ("run 15 10 0", [10, 0]), ("run 15 11 1", [-28]))

    def test_thirty_one_are_not(self):
        home = Home(*counter(4), *["do 4"] * 21)
        self.unchanged(home, ("run 15 10 10", [-28]))
        self.answered(home, ("run 15 9 9", [9, 9]), ("run 15 10 10", [-28]))

    def test_no_plan_goes_before_the_thirty_first(self):
        home = Home(*counter(4), *["do 4"] * 30)
        self.unchanged(home, ("run 15 1 1", [-28]), ("run 15 1 0", [-33]), ("run 15 11 10", [-33]),
                       ("run 16 0 1", [-22]), ("run 15 1 11", [-22]), ("run 1 3 10", [-22]))

    def test_several_times(self):
        home = Home(*counter(3))
        self.answered(home, ("run 7 2 5", [2, 2]), ("run 7 5 5", [5, 3]), ("run 7 5 5", [5, 0]), ("run 7 0 10", [-33]),
                      ("count", [5, 3, 3, 0, 0, 5]), ("entry 2", [0, 3]))

    def test_the_promise_holds_behind_it(self):
        home = Home("begin 3", "deed 1 0 6 6", "deed 2 0 1 1", "deed 1 1 4 4", "promiseaim 1 1 1")
        self.answered(home, ("run 4 4 10", [5, 2]), ("promiseaim 1 1 1", [-17]), ("plainly 1 1", [0]))


class Plainly(HomeCase):
    def test_the_fewest_steps(self):
        home = Home(*CHAIN)
        self.unchanged(home, ("plainly 7 7", [3]), ("plainly 3 3", [2]), ("plainly 1 1", [1]), ("plainly 6 2", [2]))

    def test_so_already(self):
        self.unchanged(Home(*CHAIN, "do 0"), ("plainly 1 1", [0]), ("plainly 0 0", [0]), ("plainly 7 1", [0]))

    def test_more_than_ten(self):
        self.unchanged(Home(*counter(4)), ("plainly 15 11", [11]), ("plainly 15 15", [15]))
        self.unchanged(Home(*counter(5)), ("plainly 31 31", [31]), ("plainly 16 16", [16]))

    def test_what_can_never_be_come_to(self):
        self.unchanged(Home(*CHAIN), ("plainly 6 4", [-33]))
        self.unchanged(Home("begin 2"), ("plainly 1 1", [-33]))
        self.unchanged(Home("begin 2", "deed 0 0 1 1", "event 1 1 1 0"), ("plainly 1 1", [-33]))

    def test_what_is_ill_told(self):
        home = Home(*CHAIN)
        for wrong in WRONG_AIMS:
            self.unchanged(home, (f"plainly {wrong}", [-22]))

    def test_by_waiting(self):
        self.assertEqual(last("begin 3", "event 2 2 4 4", "event 1 0 1 1", "event 1 1 2 2", "plainly 4 4"), [2])

    def test_whatever_is_promised(self):
        home = Home("begin 2", "deed 0 0 1 1", "deed 1 1 2 2", "promisefacts 3", "promiseaim 3 0 0")
        self.unchanged(home, ("safe", [1, 2]), ("plainly 3 3", [2]), ("could 3 3 10", [-33]))

    def test_from_how_it_stands(self):
        found = ask(*CHAIN, "do 0", "plainly 7 7", "shadow", "set 0", "plainly 7 7", "undeed 2", "plainly 7 7",
                    "deed 0 0 7 7", "plainly 7 7")
        self.assertEqual(found[5:], [[2], [0], [1], [3], [2], [-33], [2], [1]])


if __name__ == "__main__":
    unittest.main()
