import unittest

from helper import LARGEST, ask, last

WRONG = (
    "4 0 1 1", "8 8 1 1", f"{LARGEST} 0 1 1", "1 2 1 1", "0 1 1 1", "2 3 1 1", f"1 {LARGEST} 1 1",
    "0 0 0 0", "0 0 0 1", "0 0 4 4", "0 0 4 0", "0 0 7 1", f"0 0 {LARGEST} 0", "0 0 1 2", "0 0 1 3",
    f"0 0 1 {LARGEST}", f"{LARGEST} {LARGEST} {LARGEST} {LARGEST}",
)


class Adding(unittest.TestCase):
    def test_numbers_rise(self):
        for name, most in (("deed", 6), ("event", 3)):
            found = ask("begin 2", *[f"{name} 0 0 1 1"] * most)
            self.assertEqual(found[1:], [[number] for number in range(most)])

    def test_one_more_than_most_is_refused(self):
        for name, most in (("deed", 6), ("event", 3)):
            found = ask("begin 2", *[f"{name} 0 0 1 1"] * most, f"{name} 0 0 1 1", f"un{name} 0", f"{name} 0 0 2 2")
            self.assertEqual(found[most + 1:], [[-28], [most - 1], [most - 1]])

    def test_what_is_ill_told(self):
        for name in ("deed", "event"):
            for wrong in WRONG:
                found = ask("begin 2", f"{name} {wrong}", f"un{name} 0")
                self.assertEqual(found[1:], [[-22], [-2]], (name, wrong))

    def test_ill_told_goes_before_full(self):
        for name, most in (("deed", 6), ("event", 3)):
            for wrong in WRONG:
                found = ask("begin 2", *[f"{name} 0 0 1 1"] * most, f"{name} {wrong}", f"un{name} 0")
                self.assertEqual(found[most + 1:], [[-22], [most - 1]], (name, wrong))

    def test_all_facts_can_be_told(self):
        for name in ("deed", "event"):
            self.assertEqual(last("begin 5", f"{name} 31 31 31 31"), [0])
            self.assertEqual(last("begin 5", f"{name} 31 0 31 0"), [0])
            self.assertEqual(last("begin 5", f"{name} 32 0 31 0"), [-22])
            self.assertEqual(last("begin 5", f"{name} 0 0 32 0"), [-22])

    def test_one_full_leaves_the_other(self):
        self.assertEqual(last("begin 2", *["deed 0 0 1 1"] * 6, "event 0 0 1 1"), [0])
        self.assertEqual(last("begin 2", *["event 0 0 1 1"] * 3, "deed 0 0 1 1"), [0])


class TakingOut(unittest.TestCase):
    def test_none_such(self):
        for name in ("deed", "event"):
            for number in (2, 3, 6, LARGEST):
                found = ask("begin 2", f"{name} 0 0 1 1", f"{name} 0 0 1 1", f"un{name} {number}", f"un{name} 1")
                self.assertEqual(found[3:], [[-2], [1]])
            self.assertEqual(last("begin 2", f"un{name} 0"), [-2])

    def test_of_the_other_sort_none_such(self):
        self.assertEqual(last("begin 2", "deed 0 0 1 1", "unevent 0"), [-2])
        self.assertEqual(last("begin 2", "event 0 0 1 1", "undeed 0"), [-2])

    def test_deeds_behind_it_move_up(self):
        begun = ["begin 3", "deed 0 0 7 1", "deed 0 0 7 2", "deed 0 0 7 4"]
        for number, left in ((0, (2, 4)), (1, (1, 4)), (2, (1, 2))):
            found = ask(*begun, f"undeed {number}", "do 0", "do 1", "safe", "do 3")
            self.assertEqual(found[4:], [[2], [left[0]], [left[1]], [3, 0, 1, 2], [-2]])

    def test_events_keep_their_order(self):
        # Each event goes on from what the one before it made.
        begun = ["begin 3", "event 1 0 1 1", "event 1 1 2 2", "event 2 2 4 4"]
        self.assertEqual(last(*begun, "do 0"), [7])
        for number, reached in ((0, 0), (1, 1), (2, 3)):
            self.assertEqual(ask(*begun, f"unevent {number}", "do 0")[4:], [[2], [reached]])

    def test_down_to_none(self):
        for name in ("deed", "event"):
            found = ask("begin 2", f"{name} 0 0 1 1", f"{name} 0 0 2 2", f"un{name} 0", f"un{name} 0", f"un{name} 0")
            self.assertEqual(found[3:], [[1], [0], [-2]])


if __name__ == "__main__":
    unittest.main()
