"""entry, count; and what a second begin leaves of all that."""

import unittest

from helper import LARGEST, Home, HomeCase, ask, counter


class Entry(HomeCase):
    def test_behind_do(self):
        home = Home("begin 2", "deed 0 0 1 1", "event 1 1 2 2", "do 1", "do 0", "do 1")
        self.unchanged(home, ("entry 0", [1, 0]), ("entry 1", [0, 3]), ("entry 2", [1, 3]), ("entry 3", [-2]))

    def test_behind_run(self):
        home = Home(*counter(3), "do 3", "run 7 3 5", "do 3")
        found = [home.call(f"entry {number}") for number in range(6)]
        self.assertEqual(found, [[3, 0], [0, 1], [1, 2], [0, 3], [3, 3], [-2]])

    def test_none_such(self):
        home = Home("begin 2")
        self.unchanged(home, ("entry 0", [-2]), (f"entry {LARGEST}", [-2]))
        home.does("do 0")
        self.unchanged(home, ("entry 1", [-2]), (f"entry {LARGEST}", [-2]))

    def test_what_is_refused_is_not_written(self):
        home = Home("begin 2", "deed 1 1 2 2", "deed 0 0 1 1", "promisefacts 1")
        self.unchanged(home, ("do 0", [-6]), ("do 1", [-30]), ("do 3", [-2]), ("run 1 1 10", [-33]), ("entry 0", [-2]))

    def test_what_is_asked_is_not_written(self):
        home = Home("begin 2", "deed 0 0 1 1", "do 0")
        self.unchanged(home, ("plan 0 0 10", [0]), ("could 1 1 5", [0]), ("restore 5", [-33]), ("lasts 3", [1]),
                       ("breaks 0", [0]), ("safe", [2, 0, 1]), ("entry 1", [-2]))

    def test_the_thirtieth(self):
        home = Home("begin 2", *["do 0"] * 30)
        self.unchanged(home, ("do 0", [-28]), ("entry 29", [0, 0]), ("entry 30", [-2]))

    def test_what_was_done_stays_written(self):
        home = Home("begin 2", "deed 0 0 1 1", "do 1", "do 0", "set 2", "undeed 0", "event 0 0 3 0", "do 0", "unevent 0")
        self.unchanged(home, ("entry 0", [1, 0]), ("entry 1", [0, 1]), ("entry 2", [0, 0]), ("entry 3", [-2]))


class Count(HomeCase):
    def test_of_each_number(self):
        home = Home("begin 5")
        self.unchanged(home, ("count", [5, 5, 0, 0, 0, 0]))
        self.answered(home, ("deed 0 0 1 1", [0]), ("count", [5, 5, 1, 0, 0, 0]),
                      ("event 1 1 2 2", [0]), ("count", [5, 5, 1, 1, 0, 0]),
                      ("promisefacts 4", [0]), ("count", [5, 5, 1, 1, 1, 0]),
                      ("promiseaim 3 3 1", [1]), ("count", [5, 5, 1, 1, 2, 0]),
                      ("do 0", [3]), ("count", [5, 5, 1, 1, 2, 1]),
                      ("unpromise 1", [1]), ("count", [5, 5, 1, 1, 1, 1]),
                      ("unevent 0", [0]), ("count", [5, 5, 1, 0, 1, 1]),
                      ("undeed 0", [0]), ("count", [5, 5, 0, 0, 1, 1]), ("set 0", [3]), ("count", [5, 5, 0, 0, 1, 1]))

    def test_of_facts(self):
        for size in (2, 3, 4, 5):
            self.assertEqual(ask(f"begin {size}", "count")[1], [5, size, 0, 0, 0, 0])

    def test_the_most_of_all(self):
        home = Home("begin 2", *["deed 0 0 1 1"] * 6, *["event 0 0 1 1"] * 3, "promisefacts 0", "promisefacts 1",
                    "promisefacts 2", "promisefacts 3", *["do 6"] * 30)
        self.unchanged(home, ("count", [5, 2, 6, 3, 4, 30]), ("deed 0 0 1 1", [-28]), ("event 0 0 1 1", [-28]),
                       ("promiseaim 0 0 0", [-28]), ("do 6", [-28]), ("count", [5, 2, 6, 3, 4, 30]))


class SecondBegin(HomeCase):
    MADE = ("begin 3", "deed 0 0 1 1", "deed 1 1 2 2", "event 2 2 4 4", "promisefacts 0", "promiseaim 1 1 3",
            "run 2 2 5")

    def test_it_starts_anew(self):
        home = Home(*self.MADE, "begin 2")
        self.unchanged(home, ("count", [5, 2, 0, 0, 0, 0]), ("entry 0", [-2]), ("promiseis 0", [-2]),
                       ("unpromise 0", [-2]), ("plainly 1 1", [-33]), ("could 1 1 10", [-33]), ("plan 4 4 10", [-22]),
                       ("plan 0 0 10", [0]), ("run 1 1 10", [-33]), ("run 3 0 0", [0, 0]), ("plainly 4 0", [-22]),
                       ("lasts 10", [1]), ("restore 0", [0]), ("promisefacts 4", [-22]), ("promiseaim 4 0 0", [-22]))
        self.answered(home, ("promiseaim 0 0 3", [0]), ("promisefacts 0", [1]))

    def test_a_refused_one_leaves_all(self):
        home = Home(*self.MADE)
        for size in (0, 1, 6, LARGEST):
            self.unchanged(home, (f"begin {size}", [-22]), ("count", [5, 3, 2, 1, 2, 2]), ("entry 1", [1, 7]),
                           ("promiseis 1", [1, 1, 1, 3]), ("promisefacts 0", [-17]), ("plan 7 7 5", [0]),
                           ("lasts 1", [1]), ("restore 10", [-33]))


if __name__ == "__main__":
    unittest.main()
