"""promisefacts, promiseaim, promiseis, unpromise."""

import unittest

from helper import LARGEST, Home, HomeCase, ask, counter, last

FOUR = ("promisefacts 1", "promisefacts 2", "promiseaim 1 1 1", "promiseaim 2 0 0")


class PromiseFacts(HomeCase):
    def test_numbers_rise(self):
        found = ask("begin 2", "promisefacts 3", "promisefacts 0", "promisefacts 2", "promisefacts 1", "promiseis 0",
                    "promiseis 1", "promiseis 2", "promiseis 3")
        self.assertEqual(found[1:], [[0], [1], [2], [3], [0, 3, 0, 0], [0, 0, 0, 0], [0, 2, 0, 0], [0, 1, 0, 0]])

    def test_what_is_no_set_of_facts(self):
        for size in (2, 3, 4, 5):
            home = Home(f"begin {size}")
            for wrong in (1 << size, (1 << size) + 1, LARGEST):
                self.unchanged(home, (f"promisefacts {wrong}", [-22]))
            self.answered(home, (f"promisefacts {(1 << size) - 1}", [0]))

    def test_the_same_twice(self):
        home = Home("begin 2", "promisefacts 2", "promisefacts 3")
        self.unchanged(home, ("promisefacts 2", [-17]), ("promisefacts 3", [-17]))
        self.answered(home, ("promisefacts 0", [2]), ("promisefacts 0", [-17]))

    def test_what_does_not_hold_now(self):
        home = Home("begin 3", "deed 0 0 3 3", "deed 0 0 1 0", "do 0")
        self.unchanged(home, ("promisefacts 1", [-30]), ("promisefacts 6", [-30]), ("promisefacts 7", [-30]))
        self.answered(home, ("promisefacts 4", [0]), ("do 1", [2]), ("promisefacts 1", [1]), ("promisefacts 2", [-30]))

    def test_a_fact_that_is_so_by_itself_too(self):
        self.assertEqual(last("begin 2", "event 0 0 1 1", "deed 0 0 1 1", "do 0", "promisefacts 1"), [0])
        self.assertEqual(last("begin 2", "event 0 0 1 1", "event 2 2 1 0", "deed 0 0 2 2", "do 0", "promisefacts 1"),
                         [-30])

    def test_the_fifth(self):
        home = Home("begin 3", "promisefacts 1", "promisefacts 2", "promisefacts 3", "promisefacts 4")
        self.unchanged(home, ("promisefacts 5", [-28]), ("promisefacts 0", [-28]))
        self.answered(home, ("unpromise 3", [3]), ("promisefacts 5", [3]), ("promisefacts 4", [-28]))

    def test_several_refusals_at_once(self):
        home = Home("begin 3", "deed 0 0 4 4", "do 0", "promisefacts 0", "promisefacts 1", "promisefacts 2",
                    "promisefacts 3")
        self.unchanged(home, ("promisefacts 8", [-22]), ("promisefacts 12", [-22]), ("promisefacts 2", [-17]),
                       ("promisefacts 4", [-30]))


class PromiseAim(HomeCase):
    def test_numbers_rise(self):
        found = ask("begin 2", "deed 0 0 1 1", "promiseaim 3 0 0", "promiseaim 1 1 1", "promisefacts 2",
                    "promiseaim 3 1 40", "promiseis 0", "promiseis 1", "promiseis 2", "promiseis 3")
        self.assertEqual(found[2:], [[0], [1], [2], [3], [1, 3, 0, 0], [1, 1, 1, 1], [0, 2, 0, 0], [1, 3, 1, 40]])

    def test_what_is_no_aim(self):
        home = Home("begin 2", "deed 0 0 3 3")
        for wrong in ("4 0", "4 4", "7 1", f"{LARGEST} 0", f"{LARGEST} {LARGEST}", "1 2", "1 3", "0 1", f"3 {LARGEST}",
                      "3 4", "3 7"):
            self.unchanged(home, (f"promiseaim {wrong} 40", [-22]))
        self.answered(home, ("promiseaim 3 3 40", [0]))

    def test_forty_steps_and_more(self):
        home = Home("begin 2")
        for steps in (41, 42, LARGEST):
            self.unchanged(home, (f"promiseaim 0 0 {steps}", [-22]))
        self.answered(home, ("promiseaim 0 0 40", [0]), ("promiseis 0", [1, 0, 0, 40]))

    def test_the_same_twice(self):
        home = Home("begin 2", "deed 0 0 1 1", "promiseaim 1 1 2", "promiseaim 0 0 0")
        self.unchanged(home, ("promiseaim 1 1 2", [-17]), ("promiseaim 0 0 0", [-17]))

    def test_in_other_steps_it_is_another(self):
        home = Home("begin 2", "deed 0 0 1 1", "promiseaim 1 1 2")
        self.answered(home, ("promiseaim 1 1 1", [1]), ("promiseaim 1 1 3", [2]), ("promiseaim 1 1 40", [3]))

    def test_with_others_to_be_so_it_is_another(self):
        home = Home("begin 2", "deed 0 0 1 1", "promiseaim 1 1 1")
        self.answered(home, ("promiseaim 1 0 1", [1]), ("promiseaim 3 1 1", [2]))

    def test_of_another_kind_it_is_another(self):
        self.answered(Home("begin 2", "promisefacts 3"), ("promiseaim 3 0 0", [1]), ("promisefacts 3", [-17]),
                      ("promiseaim 3 0 0", [-17]), ("promiseis 0", [0, 3, 0, 0]), ("promiseis 1", [1, 3, 0, 0]))
        self.answered(Home("begin 2", "promiseaim 0 0 0"), ("promisefacts 0", [1]))

    def test_just_as_many_steps_as_it_takes(self):
        home = Home(*counter(5))
        self.unchanged(home, ("promiseaim 31 31 30", [-30]), ("promiseaim 31 31 0", [-30]))
        self.answered(home, ("promiseaim 31 31 31", [0]), ("promiseaim 31 31 40", [1]))

    def test_what_can_never_be_come_to(self):
        self.unchanged(Home("begin 2", "deed 0 0 1 1"), ("promiseaim 2 2 40", [-30]), ("promiseaim 3 3 40", [-30]))

    def test_so_already(self):
        home = Home("begin 2", "deed 0 0 1 1", "do 0")
        self.unchanged(home, ("promiseaim 1 0 0", [-30]), ("promiseaim 1 0 40", [-30]))
        self.answered(home, ("promiseaim 1 1 0", [0]), ("promiseaim 3 1 0", [1]))

    def test_by_an_event(self):
        home = Home("begin 2", "event 1 1 2 2", "event 1 0 1 1")
        self.unchanged(home, ("promiseaim 2 2 1", [-30]))
        self.answered(home, ("promiseaim 2 2 2", [0]))

    def test_an_event_undoes_at_once_what_it_takes(self):
        self.unchanged(Home("begin 2", "deed 0 0 1 1", "event 1 1 1 0"), ("promiseaim 1 1 40", [-30]))

    def test_whatever_else_is_promised(self):
        home = Home("begin 2", "deed 0 0 1 1", "promisefacts 1", "promiseaim 1 0 0")
        self.answered(home, ("safe", [1, 1]), ("promiseaim 1 1 1", [2]))

    def test_the_fifth(self):
        home = Home("begin 2", "deed 0 0 1 1", *FOUR)
        self.unchanged(home, ("promiseaim 1 0 0", [-28]), ("promiseaim 0 0 0", [-28]))
        self.answered(home, ("unpromise 0", [3]), ("promiseaim 1 0 0", [3]), ("promiseaim 0 0 0", [-28]))

    def test_several_refusals_at_once(self):
        home = Home("begin 2", "deed 0 0 1 1", *FOUR)
        self.unchanged(home, ("promiseaim 4 4 40", [-22]), ("promiseaim 1 2 1", [-22]), ("promiseaim 1 1 41", [-22]),
                       ("promiseaim 2 2 41", [-22]), ("promiseaim 1 1 1", [-17]), ("promiseaim 2 2 40", [-30]))

    def test_ill_told_goes_before_not_holding(self):
        self.unchanged(Home("begin 2"), ("promiseaim 1 1 41", [-22]), ("promiseaim 5 5 0", [-22]))


class PromiseIs(HomeCase):
    def test_none_such(self):
        home = Home("begin 2")
        self.unchanged(home, ("promiseis 0", [-2]), (f"promiseis {LARGEST}", [-2]))
        home.does("deed 0 0 1 1", *FOUR)
        self.unchanged(home, ("promiseis 3", [1, 2, 0, 0]), ("promiseis 4", [-2]), (f"promiseis {LARGEST}", [-2]))

    def test_a_refused_promise_is_none(self):
        home = Home("begin 2")
        self.unchanged(home, ("promisefacts 4", [-22]), ("promiseaim 1 1 1", [-30]), ("promiseis 0", [-2]))


class Unpromise(HomeCase):
    def test_none_such(self):
        home = Home("begin 2")
        self.unchanged(home, ("unpromise 0", [-2]), (f"unpromise {LARGEST}", [-2]))
        home.does("deed 0 0 1 1", *FOUR)
        self.unchanged(home, ("unpromise 4", [-2]), (f"unpromise {LARGEST}", [-2]))

    def test_those_behind_it_move_up(self):
        told = [[0, 1, 0, 0], [0, 2, 0, 0], [1, 1, 1, 1], [1, 2, 0, 0]]
        for number in range(4):
            home = Home("begin 2", "deed 0 0 1 1", *FOUR)
            left = told[:number] + told[number + 1:]
            self.answered(home, (f"unpromise {number}", [3]), ("promiseis 0", left[0]), ("promiseis 1", left[1]),
                          ("promiseis 2", left[2]), ("promiseis 3", [-2]), ("count", [5, 2, 1, 0, 3, 0]))

    def test_what_is_broken_is_numbered_anew(self):
        home = Home("begin 2", "deed 0 0 3 3", "promisefacts 1", "promiseaim 2 2 1", "promisefacts 2")
        self.answered(home, ("breaks 0", [2, 0, 2]), ("unpromise 1", [2]), ("breaks 0", [2, 0, 1]),
                      ("unpromise 0", [1]), ("breaks 0", [1, 0]), ("unpromise 0", [0]), ("breaks 0", [0]))

    def test_promised_again(self):
        home = Home("begin 2", "deed 0 0 1 1", "promisefacts 1", "promiseaim 1 1 1")
        self.answered(home, ("unpromise 0", [1]), ("promisefacts 1", [1]), ("promisefacts 1", [-17]),
                      ("unpromise 0", [1]), ("promiseaim 1 1 1", [1]), ("promiseaim 1 1 1", [-17]))

    def test_what_was_not_safe_is_now(self):
        home = Home("begin 2", "deed 0 0 1 1", "promisefacts 1")
        self.answered(home, ("do 0", [-30]), ("unpromise 0", [0]), ("do 0", [1]), ("promisefacts 1", [-30]))

    def test_down_to_none(self):
        home = Home("begin 2", "promisefacts 0", "promisefacts 1")
        self.answered(home, ("unpromise 1", [1]), ("unpromise 0", [0]), ("unpromise 0", [-2]))


if __name__ == "__main__":
    unittest.main()
