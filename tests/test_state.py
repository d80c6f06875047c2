import unittest

from helper import LARGEST, ask, last


class Set(unittest.TestCase):
    def test_answers_how_it_stood(self):
        self.assertEqual(ask("begin 3", "set 5", "set 2", "set 2", "now", "shadow")[1:], [[0], [5], [2], [2], [2]])

    def test_what_is_no_state(self):
        for size in (2, 3, 4, 5):
            for wrong in (1 << size, (1 << size) + 1, LARGEST):
                found = ask(f"begin {size}", "set 3", f"set {wrong}", "now", "shadow")
                self.assertEqual(found[2:], [[-22], [3], [3]])

    def test_events_wait_for_a_step(self):
        self.assertEqual(ask("begin 2", "event 1 1 2 2", "set 1", "now", "shadow", "do 0")[3:], [[1], [1], [3]])

    def test_what_was_done_is_counted_on(self):
        self.assertEqual(last("begin 2", *["do 0"] * 30, "set 1", "do 0"), [-28])


class ByItself(unittest.TestCase):
    def test_at_first(self):
        self.assertEqual(ask("begin 2", "now", "shadow", "otherwise")[1:], [[0], [0], [0]])

    def test_behind_deeds_without_events(self):
        found = ask("begin 5", "deed 0 0 17 17", "deed 0 0 1 0", "do 0", "shadow", "otherwise", "do 1", "otherwise")
        self.assertEqual(found[4:], [[0], [2, 0, 4], [16], [1, 4]])

    def test_all_facts_otherwise(self):
        self.assertEqual(last("begin 5", "deed 0 0 31 31", "do 0", "otherwise"), [5, 0, 1, 2, 3, 4])

    def test_otherwise_are_facts_that_are_not_so_too(self):
        self.assertEqual(last("begin 3", "set 7", "deed 0 0 5 0", "do 0", "otherwise"), [2, 0, 2])

    def test_waiting_leads_both_on(self):
        # A counter of two facts, by one event each way of the lower one.
        begun = ["begin 2", "event 3 0 3 1", "event 1 0 1 1"]
        self.assertEqual(ask(*begun, "do 0", "now", "shadow", "otherwise")[3:], [[1], [1], [1], [0]])

    def test_events_go_on_by_themselves_behind_a_deed(self):
        found = ask("begin 3", "event 2 2 4 4", "event 1 0 2 2", "deed 0 0 1 1", "do 0", "shadow", "otherwise",
                    "do 1", "shadow", "otherwise")
        self.assertEqual(found[4:], [[1], [2], [2, 0, 1], [1], [6], [3, 0, 1, 2]])

    def test_a_deed_that_makes_what_comes_by_itself(self):
        self.assertEqual(last("begin 2", "event 0 0 1 1", "deed 0 0 1 1", "do 0", "otherwise"), [0])

    def test_a_deed_that_an_event_undoes_at_once(self):
        found = ask("begin 2", "deed 0 0 1 1", "event 1 1 1 0", "do 0", "now", "shadow", "otherwise")
        self.assertEqual(found[3:], [[0], [0], [0], [0]])

    def test_otherwise_only_on_the_way(self):
        found = ask("begin 2", "deed 0 0 1 1", "deed 1 1 1 0", "do 0", "otherwise", "do 1", "otherwise")
        self.assertEqual(found[3:], [[1], [1, 0], [0], [0]])

    def test_set_makes_both_alike(self):
        found = ask("begin 2", "deed 0 0 1 1", "do 0", "set 2", "now", "shadow", "otherwise", "do 0", "shadow")
        self.assertEqual(found[3:], [[1], [2], [2], [0], [3], [2]])

    def test_a_refused_set_leaves_both(self):
        self.assertEqual(ask("begin 2", "deed 0 0 1 1", "do 0", "set 4", "now", "shadow")[3:], [[-22], [1], [0]])

    def test_a_refused_choice_is_no_step(self):
        found = ask("begin 2", "event 0 0 1 1", "deed 2 2 2 2", "do 0", "do 2", "now", "shadow")
        self.assertEqual(found[3:], [[-6], [-2], [0], [0]])

    def test_asking_is_no_step(self):
        found = ask("begin 2", "event 0 0 1 1", "safe", "breaks 0", "otherwise", "now", "shadow")
        self.assertEqual(found[5:], [[0], [0]])

    def test_taking_out_a_deed_leaves_both(self):
        found = ask("begin 2", "deed 0 0 1 1", "do 0", "undeed 0", "now", "shadow", "otherwise", "do 0", "shadow")
        self.assertEqual(found[3:], [[0], [1], [0], [1, 0], [1], [0]])

    def test_a_new_event_counts_for_later_steps_alone(self):
        found = ask("begin 2", "deed 0 0 1 1", "do 0", "do 1", "event 0 0 2 2", "shadow", "otherwise",
                    "do 1", "shadow", "otherwise")
        self.assertEqual(found[4:], [[0], [0], [1, 0], [3], [2], [1, 0]])

    def test_a_taken_event_is_still_in_earlier_steps(self):
        found = ask("begin 2", "event 0 0 2 2", "deed 0 0 3 1", "do 1", "unevent 0", "now", "shadow", "do 0", "shadow",
                    "otherwise")
        self.assertEqual(found[3:], [[2], [0], [2], [2], [1], [2], [2, 0, 1]])


if __name__ == "__main__":
    unittest.main()
