"""lasts, restore."""

import unittest

from helper import LARGEST, Home, HomeCase, counter

# By itself fact 0 comes in the first step, fact 1 in the second, fact 2 in the third.
RISING = ("begin 4", "event 2 2 4 4", "event 1 1 2 2", "event 0 0 1 1")


class Lasts(HomeCase):
    def test_without_promises_it_always_does(self):
        home = Home("begin 2", "deed 0 0 1 1")
        for steps in range(11):
            self.unchanged(home, (f"lasts {steps}", [1]))

    def test_ten_steps_and_more(self):
        home = Home("begin 2", "deed 0 0 1 1", "do 0", "event 1 1 2 2", "promisefacts 2")
        for steps in (11, 12, 40, LARGEST):
            self.unchanged(home, (f"lasts {steps}", [-22]))
            self.unchanged(Home("begin 2"), (f"lasts {steps}", [-22]))
        self.unchanged(home, ("lasts 10", [0]))

    def test_nothing_is_safe(self):
        home = Home("begin 2", "deed 0 0 1 1", "do 0", "event 1 1 2 2", "promisefacts 2")
        self.unchanged(home, ("safe", [0]), ("lasts 0", [1]), ("lasts 1", [0]), ("lasts 2", [0]))

    def test_up_to_the_step_that_breaks_it(self):
        home = Home(*RISING, "promiseaim 4 0 0")
        self.unchanged(home, ("lasts 0", [1]), ("lasts 1", [1]), ("lasts 2", [1]), ("lasts 3", [0]), ("lasts 10", [0]))
        self.answered(home, ("do 0", [1]), ("lasts 1", [1]), ("lasts 2", [0]), ("do 0", [3]), ("lasts 0", [1]),
                      ("lasts 1", [0]), ("do 0", [-30]))

    def test_some_row_is_enough(self):
        # Waiting alone breaks it in the third step; the deed, done in time, puts that off again and again.
        home = Home(*RISING, "deed 2 2 2 0", "promiseaim 4 0 0")
        self.unchanged(home, ("lasts 3", [1]), ("lasts 10", [1]))
        self.answered(home, ("do 1", [1]), ("do 1", [3]), ("safe", [1, 0]), ("lasts 10", [1]))

    def test_promised_facts_by_waiting(self):
        for state in range(16):
            self.unchanged(Home(*RISING, f"set {state}", "promisefacts 15"), ("lasts 10", [1]))

    def test_what_would_be_by_itself_goes_on(self):
        # Where fact 3 is so nothing happens: fact 2 stays away, which it doesn't by itself.
        home = Home("begin 4", "event 10 2 4 4", "event 9 1 2 2", "event 8 0 1 1", "deed 0 0 8 8", "do 0",
                    "promisefacts 4")
        self.unchanged(home, ("lasts 1", [1]), ("lasts 2", [0]))

    def test_a_promise_taken_back(self):
        home = Home(*RISING, "promiseaim 4 0 0")
        self.answered(home, ("lasts 3", [0]), ("unpromise 0", [0]), ("lasts 3", [1]))

    def test_it_does_not_hang_on_the_log(self):
        self.unchanged(Home("begin 2", *["do 0"] * 30), ("lasts 10", [1]))


class Restore(HomeCase):
    def test_restored_already(self):
        for steps in range(11):
            self.unchanged(Home("begin 2", "deed 0 0 1 1"), (f"restore {steps}", [0]))
            self.unchanged(Home(*RISING, "do 0", "do 0"), (f"restore {steps}", [0]))

    def test_by_a_deed(self):
        home = Home("begin 2", "deed 0 0 1 1", "deed 1 1 1 0", "do 0")
        self.unchanged(home, ("restore 0", [-33]), ("restore 1", [1, 1]), ("restore 10", [1, 1]))
        self.answered(home, ("do 1", [0]), ("otherwise", [0]), ("restore 0", [0]))

    def test_there_is_none(self):
        self.unchanged(Home("begin 2", "deed 0 0 1 1", "do 0"), ("restore 0", [-33]), ("restore 10", [-33]))

    def test_ten_steps_and_more(self):
        home = Home("begin 2", "deed 0 0 1 1", "do 0")
        for steps in (11, 12, 40, LARGEST):
            self.unchanged(home, (f"restore {steps}", [-22]))
            self.unchanged(Home("begin 2"), (f"restore {steps}", [-22]))

    def test_just_ten_steps(self):
        # From 6 the counter, which the last deed puts back to 0, comes there in ten steps.
        rules = counter(4) + ["deed 15 15 15 0"]
        home = Home(*rules, "run 15 6 6")
        self.unchanged(home, ("restore 9", [-33]), ("restore 10", [10, 0, 3, 0, 1, 0, 2, 0, 1, 0, 4]))
        home = Home(*rules, "run 15 5 5")
        self.unchanged(home, ("restore 10", [-33]))

    def test_only_on_the_way_of_what_would_be_by_itself(self):
        # Nothing takes fact 2 back, but by itself it comes, too.
        home = Home(*RISING, "deed 0 0 4 4", "do 0")
        self.unchanged(home, ("now", [5]), ("shadow", [1]), ("plainly 7 0", [-33]), ("restore 1", [-33]))
        self.unchanged(home, ("restore 2", [2, 0, 0]), ("restore 10", [2, 0, 0]))
        self.answered(home, ("do 1", [7]), ("otherwise", [1, 2]), ("restore 1", [1, 0]), ("do 1", [7]),
                      ("otherwise", [0]), ("restore 0", [0]))

    def test_back_where_it_began_is_not_enough(self):
        home = Home("begin 3", "event 4 0 1 1", "deed 0 0 5 4", "deed 4 4 4 0", "do 0")
        self.unchanged(home, ("now", [4]), ("shadow", [1]), ("restore 1", [1, 1]))
        home = Home("begin 3", "event 4 0 1 1", "deed 0 0 5 4", "deed 4 4 7 2", "do 0", "do 1")
        self.unchanged(home, ("now", [3]), ("shadow", [1]), ("restore 10", [-33]))

    def test_the_first_of_the_shortest(self):
        home = Home("begin 3", "deed 0 0 7 7", "deed 2 2 2 0", "deed 1 1 1 0", "deed 4 4 4 0", "deed 1 1 1 0", "do 0")
        self.unchanged(home, ("restore 10", [3, 1, 2, 3]), ("restore 2", [-33]))
        home = Home("begin 3", "deed 0 0 1 1", "deed 1 1 3 2", "deed 2 2 2 0", "deed 1 1 1 0", "do 0")
        self.unchanged(home, ("restore 10", [1, 3]))

    def test_no_promise_is_broken_on_the_way(self):
        rules = ("begin 4", "deed 0 0 1 1", "deed 1 1 3 2", "deed 3 2 2 0", "deed 1 1 9 8", "deed 8 8 12 4",
                 "deed 4 4 4 0", "do 0")
        self.unchanged(Home(*rules), ("restore 10", [2, 1, 2]))
        self.unchanged(Home(*rules, "promisefacts 2"), ("restore 10", [3, 3, 4, 5]), ("restore 2", [-33]))
        self.unchanged(Home(*rules, "promisefacts 6"), ("restore 10", [-33]))

    def test_no_aim_is_lost_on_the_way(self):
        rules = ("begin 2", "deed 0 0 1 1", "deed 1 1 1 0", "do 0")
        self.unchanged(Home(*rules, "promiseaim 1 1 0"), ("restore 10", [-33]))
        self.unchanged(Home(*rules, "promiseaim 1 1 1"), ("restore 10", [1, 1]))

    def test_nothing_is_safe(self):
        home = Home("begin 2", "deed 0 0 1 1", "do 0", "event 1 1 2 2", "promisefacts 2")
        self.unchanged(home, ("safe", [0]), ("restore 10", [-33]))

    def test_it_does_not_hang_on_the_log(self):
        home = Home("begin 2", "deed 0 0 1 1", "deed 1 1 1 0", *["do 0"] * 30)
        self.unchanged(home, ("restore 1", [1, 1]), ("do 1", [-28]))

    def test_behind_set(self):
        home = Home("begin 2", "deed 0 0 1 1", "do 0")
        self.answered(home, ("restore 10", [-33]), ("set 1", [1]), ("restore 10", [0]))


if __name__ == "__main__":
    unittest.main()
