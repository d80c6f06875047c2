"""The first twelve calls in houses that have promised something."""

import unittest

from helper import Home, HomeCase


class FactsPromised(HomeCase):
    def test_a_deed_on_other_facts_is_safe(self):
        home = Home("begin 2", "deed 0 0 1 1", "deed 0 0 2 2", "promisefacts 1")
        self.unchanged(home, ("safe", [2, 1, 2]), ("breaks 0", [1, 0]), ("breaks 1", [0]), ("do 0", [-30]))
        self.answered(home, ("do 1", [2]))

    def test_held_against_a_step_by_waiting(self):
        # The event makes by itself what the deed makes, so nothing is otherwise behind it.
        home = Home("begin 2", "event 0 0 1 1", "deed 0 0 1 1", "promisefacts 3")
        self.answered(home, ("do 0", [1]))

    def test_a_deed_that_an_event_undoes_is_safe(self):
        home = Home("begin 2", "event 1 1 1 0", "deed 0 0 1 1", "promisefacts 3")
        self.answered(home, ("safe", [2, 0, 1]), ("breaks 0", [0]), ("do 0", [0]), ("entry 0", [0, 0]))

    def test_a_promise_that_waiting_would_break(self):
        # Fact 0 is otherwise, and behind another step the event makes fact 1 of it.
        home = Home("begin 2", "deed 0 0 1 1", "do 0", "event 1 1 2 2", "deed 1 1 1 0", "promisefacts 2")
        self.unchanged(home, ("breaks 2", [1, 0]), ("do 2", [-30]), ("safe", [1, 1]))
        self.answered(home, ("do 1", [0]), ("safe", [1, 2]))

    def test_nothing_is_safe(self):
        home = Home("begin 2", "deed 0 0 1 1", "do 0", "event 1 1 2 2", "promisefacts 2")
        self.unchanged(home, ("safe", [0]), ("do 0", [-30]), ("do 1", [-30]))

    def test_no_facts_promised(self):
        home = Home("begin 2", "deed 0 0 3 3", "promisefacts 0")
        self.answered(home, ("safe", [2, 0, 1]), ("do 0", [3]), ("breaks 0", [0]))

    def test_set_makes_it_hold(self):
        home = Home("begin 2", "deed 0 0 1 1", "do 0", "promisefacts 2")
        self.answered(home, ("set 2", [1]), ("otherwise", [0]), ("shadow", [2]))

    def test_waiting_is_safe_where_nothing_is_otherwise(self):
        for state in range(8):
            home = Home("begin 3", "event 1 0 3 1", "event 2 2 4 4", f"set {state}", "promisefacts 7")
            self.answered(home, ("safe", [1, 0]))


class AimPromised(HomeCase):
    def test_as_near_as_promised(self):
        rules = ("begin 3", "deed 1 0 1 1", "deed 3 1 2 2", "deed 7 3 4 4", "deed 0 0 1 0", "do 0")
        for steps, answer in ((2, [1, 0]), (3, [0]), (40, [0])):
            home = Home(*rules, f"promiseaim 7 7 {steps}")
            self.answered(home, ("breaks 3", answer), ("breaks 1", [0]), ("breaks 4", [0]))

    def test_so_already_in_no_steps(self):
        home = Home("begin 2", "deed 0 0 1 1", "promiseaim 1 0 0")
        self.unchanged(home, ("safe", [1, 1]), ("do 0", [-30]))

    def test_of_no_facts(self):
        home = Home("begin 2", "deed 0 0 1 1", "promiseaim 0 0 0")
        self.answered(home, ("safe", [2, 0, 1]), ("do 0", [1]))

    def test_by_whatever_deeds(self):
        # The way back to the aim breaks the other promise, and counts all the same.
        home = Home("begin 2", "deed 1 0 1 1", "deed 1 1 3 2", "promisefacts 2", "promiseaim 1 0 1")
        self.answered(home, ("do 0", [1]), ("breaks 1", [1, 0]))

    def test_by_waiting(self):
        home = Home("begin 2", "event 1 1 1 0", "event 2 2 3 1", "deed 0 0 2 2", "promiseaim 3 0 1")
        self.answered(home, ("breaks 0", [0]), ("do 0", [1]), ("do 1", [0]))

    def test_as_it_stands_and_not_as_by_itself(self):
        home = Home("begin 2", "deed 0 0 1 1", "do 0", "promiseaim 1 1 0")
        self.answered(home, ("safe", [2, 0, 1]), ("breaks 1", [0]))

    def test_waiting_would_break_it(self):
        home = Home("begin 2", "event 0 0 1 1", "deed 0 0 1 0", "event 2 2 1 0", "deed 0 0 2 2", "promiseaim 1 0 0")
        self.unchanged(home, ("breaks 2", [1, 0]), ("do 2", [-30]), ("safe", [1, 1]))
        self.answered(home, ("do 1", [2]), ("safe", [3, 0, 1, 2]))


class SeveralPromised(HomeCase):
    def test_which_are_broken_rising(self):
        home = Home("begin 3", "deed 0 0 7 7", "deed 0 0 2 2",
                    "promisefacts 1", "promiseaim 2 0 0", "promisefacts 0", "promisefacts 6")
        self.answered(home, ("breaks 0", [3, 0, 1, 3]), ("breaks 1", [2, 1, 3]), ("breaks 2", [0]), ("safe", [1, 2]))

    def test_other_refusals_go_first(self):
        home = Home("begin 2", "deed 1 1 2 2", "deed 0 0 2 2", "promisefacts 2")
        self.unchanged(home, ("do 3", [-2]), ("breaks 3", [-2]), ("do 0", [-6]), ("breaks 0", [-6]), ("do 1", [-30]))

    def test_unsafe_goes_before_the_thirty_first(self):
        home = Home("begin 2", "deed 0 0 1 1", *["do 1"] * 30, "promisefacts 1")
        self.unchanged(home, ("do 0", [-30]), ("do 1", [-28]))

    def test_begin_takes_all_back(self):
        home = Home("begin 2", "promiseaim 1 0 0")
        self.unchanged(home, ("set 1", [-30]), ("begin 6", [-22]), ("set 1", [-30]))
        self.answered(home, ("begin 2", [0]), ("promiseis 0", [-2]), ("set 1", [0]))


class ChangesUnderAnAim(HomeCase):
    def test_set(self):
        home = Home("begin 2", "deed 3 1 2 2", "set 1", "promiseaim 2 2 1")
        self.unchanged(home, ("set 0", [-30]), ("set 4", [-22]))
        self.answered(home, ("set 2", [1]), ("shadow", [2]))

    def test_undeed(self):
        home = Home("begin 2", "deed 0 0 2 2", "deed 0 0 1 1", "promiseaim 1 1 1")
        self.unchanged(home, ("undeed 1", [-30]), ("undeed 2", [-2]))
        self.answered(home, ("undeed 0", [1]))
        self.unchanged(home, ("undeed 0", [-30]))

    def test_event(self):
        home = Home("begin 2", "deed 0 0 1 1", "promiseaim 1 1 1")
        self.unchanged(home, ("event 1 1 1 0", [-30]), ("event 0 0 0 0", [-22]))
        self.answered(home, ("event 0 0 2 2", [0]))

    def test_event_other_refusals_go_first(self):
        home = Home("begin 2", "deed 0 0 1 1", *["event 0 0 2 2"] * 3, "promiseaim 1 1 1")
        self.unchanged(home, ("event 1 1 1 0", [-28]), ("event 4 4 1 0", [-22]))

    def test_unevent(self):
        home = Home("begin 2", "event 0 0 2 2", "event 0 0 1 1", "promiseaim 1 1 1")
        self.unchanged(home, ("unevent 1", [-30]), ("unevent 2", [-2]))
        self.answered(home, ("unevent 0", [1]))
        self.unchanged(home, ("unevent 0", [-30]))

    def test_an_event_that_stands_in_the_way(self):
        # The first event would undo the first deed at once, the second one comes too late for that.
        rules = ("begin 2", "deed 0 0 1 1", "deed 1 1 2 2")
        self.unchanged(Home(*rules, "promiseaim 2 2 2"), ("event 3 1 1 0", [-30]))
        self.answered(Home(*rules, "promiseaim 2 2 2"), ("event 2 2 1 0", [0]))

    def test_an_event_that_makes_it_farther(self):
        # Fact 0 would stay behind a step only where fact 1 is so.
        rules = ("begin 2", "deed 0 0 1 1", "deed 0 0 2 2")
        self.unchanged(Home(*rules, "promiseaim 1 1 1"), ("event 2 0 1 0", [-30]))
        self.answered(Home(*rules, "promiseaim 1 1 2"), ("event 2 0 1 0", [0]))

    def test_a_taken_event_that_makes_it_farther(self):
        # The event makes fact 1 so in the very step of the first deed.
        rules = ("begin 2", "event 0 0 2 2", "deed 0 0 1 1", "deed 0 0 2 2")
        self.unchanged(Home(*rules, "promiseaim 3 3 1"), ("unevent 0", [-30]))
        self.answered(Home(*rules, "promiseaim 3 3 2"), ("unevent 0", [0]))

    def test_a_taken_deed_that_makes_it_farther(self):
        rules = ("begin 3", "deed 0 0 1 1", "deed 1 1 2 2", "deed 0 0 2 2")
        self.unchanged(Home(*rules, "promiseaim 2 2 1"), ("undeed 2", [-30]))
        self.answered(Home(*rules, "promiseaim 2 2 2"), ("undeed 2", [2]), ("breaks 2", [0]))

    def test_a_promise_taken_back_frees(self):
        home = Home("begin 2", "deed 0 0 1 1", "promiseaim 1 1 1")
        self.unchanged(home, ("undeed 0", [-30]), ("event 1 1 1 0", [-30]))
        self.answered(home, ("unpromise 0", [0]), ("event 1 1 1 0", [0]), ("undeed 0", [0]))


class ChangesUnderFacts(HomeCase):
    def test_none_of_them_is_refused(self):
        home = Home("begin 2", "deed 0 0 1 1", "deed 0 0 2 2", "do 1", "promisefacts 1")
        self.answered(home, ("event 2 2 1 1", [0]), ("unevent 0", [0]), ("undeed 0", [1]), ("set 1", [2]),
                      ("set 3", [1]), ("otherwise", [0]))

    def test_a_change_of_events_leaves_them_as_they_are(self):
        home = Home("begin 2", "deed 0 0 1 1", "do 1", "promisefacts 3")
        self.answered(home, ("event 0 0 2 2", [0]), ("do 1", [2]), ("unevent 0", [0]), ("otherwise", [0]))

    def test_other_refusals_stay(self):
        home = Home("begin 2", "deed 0 0 1 1", *["event 0 0 2 2"] * 3, "promisefacts 3")
        self.unchanged(home, ("event 0 0 1 1", [-28]), ("event 0 0 4 4", [-22]), ("unevent 3", [-2]),
                       ("undeed 1", [-2]), ("set 4", [-22]))


class OneDeedMore(HomeCase):
    def test_is_never_refused_for_a_promise(self):
        home = Home("begin 2", "promiseaim 1 0 0", "promisefacts 3")
        self.answered(home, ("deed 0 0 3 3", [0]), ("safe", [1, 1]), ("breaks 0", [2, 0, 1]))

    def test_brings_an_aim_nearer(self):
        home = Home("begin 2", "deed 0 0 1 1", "deed 1 1 2 2")
        self.unchanged(home, ("promiseaim 2 2 1", [-30]))
        self.answered(home, ("deed 0 0 2 2", [2]), ("promiseaim 2 2 1", [0]))

    def test_other_refusals_stay(self):
        home = Home("begin 2", *["deed 0 0 1 1"] * 6, "promiseaim 1 1 1")
        self.unchanged(home, ("deed 0 0 1 1", [-28]), ("deed 0 0 4 4", [-22]))


if __name__ == "__main__":
    unittest.main()
