"""The calls that ask whether promises hold, on houses to which promises are put in directly."""

import unittest

from helper import Promised


def facts(which):
    return (0, which, 0, 0)


def aim(which, wanted, steps):
    return (1, which, wanted, steps)


class FactsPromised(unittest.TestCase):
    def test_a_deed_on_other_facts_is_safe(self):
        home = Promised("begin 2", "deed 0 0 1 1", "deed 0 0 2 2").promise(facts(1))
        self.assertEqual(home.call("safe"), [2, 1, 2])
        self.assertEqual(home.call("breaks 0"), [1, 0])
        self.assertEqual(home.call("breaks 1"), [0])
        before = home.stands()
        self.assertEqual(home.call("do 0"), [-30])
        self.assertEqual(home.stands(), before)
        self.assertEqual(home.call("do 1"), [2])

    def test_held_against_a_step_by_waiting(self):
        # The event makes by itself what the deed makes, so nothing is otherwise behind it.
        home = Promised("begin 2", "event 0 0 1 1", "deed 0 0 1 1").promise(facts(3))
        self.assertEqual(home.call("do 0"), [1])

    def test_a_deed_that_an_event_undoes_is_safe(self):
        home = Promised("begin 2", "event 1 1 1 0", "deed 0 0 1 1").promise(facts(3))
        self.assertEqual(home.call("safe"), [2, 0, 1])

    def test_a_promise_that_waiting_would_break(self):
        # Fact 0 is otherwise, and behind another step the event makes fact 1 of it.
        home = Promised("begin 2", "deed 0 0 1 1", "do 0", "event 1 1 2 2", "deed 1 1 1 0").promise(facts(2))
        self.assertEqual(home.call("breaks 2"), [1, 0])
        self.assertEqual(home.call("do 2"), [-30])
        self.assertEqual(home.call("safe"), [1, 1])

    def test_nothing_is_safe(self):
        home = Promised("begin 2", "deed 0 0 1 1", "do 0", "event 1 1 2 2").promise(facts(2))
        self.assertEqual(home.call("safe"), [0])

    def test_no_facts_promised(self):
        home = Promised("begin 2", "deed 0 0 3 3").promise(facts(0))
        self.assertEqual(home.call("safe"), [2, 0, 1])
        self.assertEqual(home.call("do 0"), [3])

    def test_set_makes_it_hold(self):
        home = Promised("begin 2").promise(facts(3))
        self.assertEqual(home.call("set 2"), [0])
        self.assertEqual(home.call("otherwise"), [0])

    def test_waiting_is_safe_where_nothing_is_otherwise(self):
        for state in range(8):
            home = Promised("begin 3", "event 1 0 3 1", "event 2 2 4 4", f"set {state}").promise(facts(7))
            self.assertEqual(home.call("safe"), [1, 0])


class AimPromised(unittest.TestCase):
    def test_as_near_as_promised(self):
        rules = ("begin 3", "deed 1 0 1 1", "deed 3 1 2 2", "deed 7 3 4 4")
        for steps, answer in ((3, [0]), (2, [1, 0]), (40, [0])):
            self.assertEqual(Promised(*rules).promise(aim(7, 7, steps)).call("breaks 3"), answer)
        self.assertEqual(Promised(*rules).promise(aim(7, 7, 2)).call("breaks 0"), [0])

    def test_so_already_in_no_steps(self):
        home = Promised("begin 2", "deed 0 0 1 1").promise(aim(1, 0, 0))
        self.assertEqual(home.call("safe"), [1, 1])
        self.assertEqual(home.call("do 0"), [-30])

    def test_of_no_facts(self):
        home = Promised("begin 2", "deed 0 0 1 1").promise(aim(0, 0, 0))
        self.assertEqual(home.call("safe"), [2, 0, 1])

    def test_by_whatever_deeds(self):
        # The way back to the aim breaks the other promise, and counts all the same.
        home = Promised("begin 2", "deed 1 0 1 1", "deed 1 1 3 2").promise(facts(2), aim(1, 0, 1))
        self.assertEqual(home.call("do 0"), [1])
        self.assertEqual(home.call("breaks 1"), [1, 0])

    def test_by_waiting(self):
        home = Promised("begin 2", "event 1 1 1 0", "event 2 2 3 1", "deed 0 0 2 2").promise(aim(3, 0, 1))
        self.assertEqual(home.call("breaks 0"), [0])
        self.assertEqual(home.call("do 0"), [1])
        self.assertEqual(home.call("do 1"), [0])

    def test_as_it_stands_and_not_as_by_itself(self):
        home = Promised("begin 2", "deed 0 0 1 1", "do 0").promise(aim(1, 1, 0))
        self.assertEqual(home.call("safe"), [2, 0, 1])
        self.assertEqual(home.call("breaks 1"), [0])


class SeveralPromised(unittest.TestCase):
    def test_which_are_broken_rising(self):
        home = Promised("begin 3", "deed 0 0 7 7", "deed 0 0 2 2")
        home.promise(facts(1), aim(2, 0, 0), facts(0), facts(6))
        self.assertEqual(home.call("breaks 0"), [3, 0, 1, 3])
        self.assertEqual(home.call("breaks 1"), [2, 1, 3])
        self.assertEqual(home.call("breaks 2"), [0])
        self.assertEqual(home.call("safe"), [1, 2])

    def test_other_refusals_go_first(self):
        home = Promised("begin 2", "deed 1 1 2 2", "deed 0 0 2 2").promise(facts(2))
        self.assertEqual(home.call("do 3"), [-2])
        self.assertEqual(home.call("breaks 3"), [-2])
        self.assertEqual(home.call("do 0"), [-6])
        self.assertEqual(home.call("breaks 0"), [-6])
        self.assertEqual(home.call("do 1"), [-30])

    def test_unsafe_goes_before_the_thirty_first(self):
        home = Promised("begin 2", "deed 0 0 1 1", *["do 1"] * 30).promise(facts(1))
        before = home.stands()
        self.assertEqual(home.call("do 0"), [-30])
        self.assertEqual(home.call("do 1"), [-28])
        self.assertEqual(home.stands(), before)

    def test_begin_takes_all_back(self):
        home = Promised("begin 2").promise(aim(1, 0, 0))
        self.assertEqual(home.call("set 1"), [-30])
        self.assertEqual(home.call("begin 6"), [-22])
        self.assertEqual(home.call("set 1"), [-30])
        self.assertEqual(home.call("begin 2"), [0])
        self.assertEqual(home.call("set 1"), [0])


class ChangesUnderPromises(unittest.TestCase):
    def refused(self, home, call, answer=-30):
        before = home.stands()
        self.assertEqual(home.call(call), [answer])
        self.assertEqual(home.stands(), before)

    def test_set(self):
        home = Promised("begin 2", "deed 3 1 2 2").promise(aim(2, 2, 1))
        home.house.state = 1
        self.refused(home, "set 0")
        self.refused(home, "set 4", -22)
        self.assertEqual(home.call("set 2"), [1])

    def test_undeed(self):
        home = Promised("begin 2", "deed 0 0 2 2", "deed 0 0 1 1").promise(aim(1, 1, 1))
        self.refused(home, "undeed 1")
        self.refused(home, "undeed 2", -2)
        self.assertEqual(home.call("undeed 0"), [1])
        self.refused(home, "undeed 0")

    def test_event(self):
        home = Promised("begin 2", "deed 0 0 1 1").promise(aim(1, 1, 1))
        self.refused(home, "event 1 1 1 0")
        self.assertEqual(home.call("event 0 0 2 2"), [0])
        self.refused(home, "event 0 0 0 0", -22)

    def test_event_other_refusals_go_first(self):
        home = Promised("begin 2", "deed 0 0 1 1", *["event 0 0 2 2"] * 3).promise(aim(1, 1, 1))
        self.refused(home, "event 1 1 1 0", -28)
        self.refused(home, "event 4 4 1 0", -22)

    def test_unevent(self):
        home = Promised("begin 2", "event 0 0 2 2", "event 0 0 1 1").promise(aim(1, 1, 1))
        self.refused(home, "unevent 1")
        self.refused(home, "unevent 2", -2)
        self.assertEqual(home.call("unevent 0"), [1])

    def test_a_deed_more_is_never_refused_for_it(self):
        home = Promised("begin 2").promise(aim(1, 0, 0), facts(3))
        self.assertEqual(home.call("deed 0 0 3 3"), [0])
        self.assertEqual(home.call("safe"), [1, 1])

    def test_a_change_of_events_leaves_promised_facts(self):
        home = Promised("begin 2", "deed 0 0 1 1", "do 1").promise(facts(3))
        self.assertEqual(home.call("event 0 0 2 2"), [0])
        self.assertEqual(home.call("do 1"), [2])
        self.assertEqual(home.call("unevent 0"), [0])
        self.assertEqual(home.call("otherwise"), [0])

    def test_the_log_keeps_choice_and_state(self):
        home = Promised("begin 2", "deed 0 0 1 1", "do 1", "do 0", "set 2", "undeed 0", "do 0")
        self.assertEqual(home.house.log, [(1, 0), (0, 1), (0, 2)])


if __name__ == "__main__":
    unittest.main()
