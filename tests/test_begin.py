import unittest

from helper import ARGUMENTS, LARGEST, NAMES, ask, last


def sample(name):
    return [name] + [0] * ARGUMENTS[NAMES.index(name)]


class Begin(unittest.TestCase):
    def test_two_to_five_facts(self):
        for size in (2, 3, 4, 5):
            self.assertEqual(ask(f"begin {size}", "now", f"set {(1 << size) - 1}", f"set {1 << size}"),
                             [[0], [0], [0], [-22]])

    def test_other_sizes_are_refused(self):
        for size in (0, 1, 6, 7, 32, LARGEST):
            self.assertEqual(ask(f"begin {size}"), [[-22]])

    def test_all_else_before_a_begin(self):
        for name in NAMES[1:]:
            self.assertEqual(ask(sample(name)), [[-11]], name)

    def test_not_begun_goes_before_other_refusals(self):
        for name in NAMES[1:]:
            wrong = [name] + [LARGEST] * ARGUMENTS[NAMES.index(name)]
            self.assertEqual(ask(wrong), [[-11]], name)

    def test_all_else_behind_a_refused_begin(self):
        for name in NAMES[1:]:
            self.assertEqual(ask("begin 1", sample(name), "begin 6", sample(name)),
                             [[-22], [-11], [-22], [-11]], name)

    def test_begun_behind_a_refused_begin(self):
        self.assertEqual(ask("begin 6", "now", "begin 2", "now"), [[-22], [-11], [0], [0]])

    def test_a_refused_second_begin_changes_nothing(self):
        for size in (1, 6):
            found = ask("begin 3", "deed 0 0 1 1", "event 1 1 2 2", "set 4", "do 0",
                        f"begin {size}", "now", "shadow", "otherwise", "safe", "set 7", "undeed 0", "unevent 0")
            self.assertEqual(found[5:], [[-22], [7], [4], [2, 0, 1], [2, 0, 1], [7], [0], [0]])

    def test_a_second_begin_starts_anew(self):
        found = ask("begin 3", "deed 0 0 1 1", "event 1 1 2 2", "set 4", "do 0",
                    "begin 2", "now", "shadow", "otherwise", "safe", "set 4", "undeed 0", "unevent 0", "breaks 1")
        self.assertEqual(found[5:], [[0], [0], [0], [0], [1, 0], [-22], [-2], [-2], [-2]])

    def test_a_second_begin_may_have_more_facts(self):
        self.assertEqual(ask("begin 2", "set 31", "begin 5", "set 31", "now"), [[0], [-22], [0], [0], [31]])

    def test_a_second_begin_forgets_what_was_done(self):
        done = ["do 0"] * 30
        self.assertEqual(last("begin 2", *done, "do 0"), [-28])
        self.assertEqual(last("begin 2", *done, "begin 2", "do 0"), [0])


if __name__ == "__main__":
    unittest.main()
