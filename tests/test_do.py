import unittest

from helper import LARGEST, ask, last


class Do(unittest.TestCase):
    def test_only_the_told_facts_change(self):
        self.assertEqual(ask("begin 5", "set 21", "deed 5 5 6 2", "do 0", "now")[3:], [[19], [19]])

    def test_a_deed_needs_what_is_so_and_what_is_not(self):
        for state in range(8):
            fitting = state & 5 == 4
            found = ask("begin 3", f"set {state}", "deed 5 4 2 2", "do 0", "now", "safe", "breaks 0")
            after = state | 2
            expected = [[after], [after], [2, 0, 1], [0]] if fitting else [[-6], [state], [1, 1], [-6]]
            self.assertEqual(found[3:], expected)

    def test_waiting_can_always_be_done(self):
        for deeds in range(7):
            found = ask("begin 2", *["deed 1 1 2 2"] * deeds, f"do {deeds}", "safe", f"breaks {deeds}")
            self.assertEqual(found[deeds + 1:], [[0], [1, deeds], [0]])

    def test_behind_waiting_there_is_no_choice(self):
        for deeds in range(7):
            for number in (deeds + 1, deeds + 2, LARGEST):
                found = ask("begin 2", *["deed 1 1 2 2"] * deeds, f"do {number}", f"breaks {number}", "now")
                self.assertEqual(found[deeds + 1:], [[-2], [-2], [0]])

    def test_waiting_is_numbered_anew_with_the_deeds(self):
        found = ask("begin 2", "do 0", "deed 0 0 1 1", "do 0", "do 1", "undeed 0", "do 1", "do 0")
        self.assertEqual(found[1:], [[0], [0], [1], [1], [0], [-2], [1]])

    def test_events_happen_in_order(self):
        self.assertEqual(last("begin 3", "event 1 0 2 2", "event 2 2 4 4", "do 0"), [6])
        self.assertEqual(last("begin 3", "event 2 2 4 4", "event 1 0 2 2", "do 0"), [2])

    def test_each_event_happens_once_a_step(self):
        self.assertEqual(last("begin 3", "event 4 4 1 1", "event 2 2 4 4", "event 0 0 2 2", "do 0"), [2])

    def test_an_event_may_stop_another(self):
        self.assertEqual(last("begin 2", "event 0 0 1 1", "event 1 0 2 2", "do 0"), [1])

    def test_events_see_what_the_deed_made(self):
        self.assertEqual(last("begin 2", "deed 0 0 1 1", "event 1 1 2 2", "do 0"), [3])

    def test_an_event_undoes_a_deed_at_once(self):
        found = ask("begin 2", "deed 0 0 1 1", "event 1 1 1 0", "do 0", "now", "do 0")
        self.assertEqual(found[3:], [[0], [0], [0]])

    def test_a_deed_that_changes_nothing(self):
        self.assertEqual(ask("begin 2", "set 1", "deed 1 1 1 1", "do 0", "otherwise")[3:], [[1], [0]])

    def test_the_thirty_first_choice(self):
        found = ask("begin 2", "deed 1 0 1 1", "deed 1 1 1 0", *["do 0", "do 1"] * 15, "do 0", "now", "shadow")
        self.assertEqual(found[3:33], [[1], [0]] * 15)
        self.assertEqual(found[33:], [[-28], [0], [0]])

    def test_other_refusals_go_before_the_thirty_first(self):
        found = ask("begin 2", "deed 1 1 1 0", *["do 1"] * 30, "do 2", "do 0", "do 1")
        self.assertEqual(found[-3:], [[-2], [-6], [-28]])

    def test_refused_choices_are_not_counted(self):
        found = ask("begin 2", "deed 1 1 1 0", *["do 0", "do 2"] * 10, *["do 1"] * 31)
        self.assertEqual(found[22:], [[0]] * 30 + [[-28]])

    def test_safe_and_breaks_go_on_behind_thirty(self):
        found = ask("begin 2", "deed 0 0 1 1", *["do 1"] * 30, "safe", "breaks 0", "breaks 1")
        self.assertEqual(found[-3:], [[2, 0, 1], [0], [0]])


class SafeWithoutPromises(unittest.TestCase):
    def test_all_that_can_be_done_is_safe(self):
        found = ask("begin 3", "deed 1 1 2 2", "deed 1 0 1 1", "deed 4 0 4 4", "safe", "do 1", "safe")
        self.assertEqual(found[4:], [[3, 1, 2, 3], [1], [3, 0, 2, 3]])

    def test_nothing_to_break(self):
        found = ask("begin 2", "deed 0 0 1 1", "deed 1 1 1 0", "breaks 0", "breaks 1", "breaks 2", "breaks 3")
        self.assertEqual(found[3:], [[0], [-6], [0], [-2]])


if __name__ == "__main__":
    unittest.main()
