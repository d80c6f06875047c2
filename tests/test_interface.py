import unittest

from changesnothing.house import answers
from helper import flat

LONG = flat([
    "now", "begin 1", "begin 4", "deed 0 0 1 1", "deed 1 1 6 2", "deed 8 8 1 0", "event 2 2 8 8", "event 3 3 4 4",
    "do 0", "do 1", "safe", "otherwise", "shadow", "breaks 0", "breaks 4", "undeed 1", "unevent 0", "set 9", "set 16",
    "do 0", "do 1", "do 2", "safe", "begin 2", "safe", "now",
])


class Interface(unittest.TestCase):
    def test_each_answer_has_its_count_ahead(self):
        calls = flat(["begin 3", "deed 0 0 5 5", "do 0", "otherwise", "safe", "breaks 0", "do 2", "now"])
        self.assertEqual(answers(calls), [1, 0, 1, 0, 1, 5, 3, 2, 0, 2, 3, 2, 0, 1, 1, 0, 1, -2, 1, 5])

    def test_how_calls_are_written(self):
        calls = [0, 2, 1, 0, 0, 1, 1, 2, 1, 1, 2, 2, 9, 0, 6, 7, 8, 10, 11, 0, 5, 0, 3, 0, 4, 0]
        self.assertEqual(answers(calls),
                         [1, 0, 1, 0, 1, 0, 1, 3, 1, 3, 1, 0, 3, 2, 0, 1, 3, 2, 0, 1, 1, 0, 1, 3, 1, 0, 1, 0])

    def test_what_is_handed_in_stays(self):
        calls = list(LONG)
        answers(calls)
        self.assertEqual(calls, LONG)

    def test_two_times_in_a_row(self):
        first = answers(list(LONG))
        self.assertEqual(answers(list(LONG)), first)

    def test_nothing_is_kept(self):
        answers([0, 2, 5, 3])
        self.assertEqual(answers([6]), [1, -11])
        self.assertEqual(answers([0, 2, 6]), [1, 0, 1, 0])

    def test_whole_numbers_in_a_list(self):
        given = answers(list(LONG))
        self.assertIs(type(given), list)
        self.assertEqual({type(number) for number in given}, {int})

    def test_sixty_calls(self):
        self.assertEqual(answers([0, 2] + [9, 0] * 59), [1, 0] + [1, 0] * 30 + [1, -28] * 29)


if __name__ == "__main__":
    unittest.main()
