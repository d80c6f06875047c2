import unittest

from changesnothing.house import answers
from helper import flat

LONG = flat([
    "now", "begin 1", "begin 4", "deed 0 0 1 1", "deed 1 1 6 2", "deed 8 8 1 0", "event 2 2 8 8", "event 3 3 4 4",
    "promisefacts 0", "promiseaim 8 8 3", "promiseaim 8 8 3", "promiseis 1", "promiseis 2", "plan 8 8 10", "could 8 8 1",
    "do 0", "run 8 8 10", "entry 1", "entry 5", "safe", "otherwise", "shadow", "breaks 0", "breaks 4", "lasts 3",
    "restore 10", "plainly 15 0", "plainly 8 8", "unpromise 1", "undeed 1", "unevent 0", "set 9", "set 16", "do 0",
    "do 1", "do 2", "safe", "count", "lasts 11", "restore 0", "promisefacts 16", "begin 2", "safe", "now", "count",
])


class Guarded(list):
    """A list that can't be changed by its methods."""

    def refuse(self, *arguments):
        raise AssertionError("what was handed in is changed")

    append = clear = extend = insert = pop = remove = reverse = sort = __setitem__ = __delitem__ = refuse
    __iadd__ = __imul__ = refuse


class Interface(unittest.TestCase):
    def test_each_answer_has_its_count_ahead(self):
        calls = flat(["begin 3", "deed 0 0 5 5", "do 0", "otherwise", "safe", "breaks 0", "do 2", "now"])
        self.assertEqual(answers(calls), [1, 0, 1, 0, 1, 5, 3, 2, 0, 2, 3, 2, 0, 1, 1, 0, 1, -2, 1, 5])

    def test_how_calls_are_written(self):
        calls = [0, 2, 1, 0, 0, 1, 1, 2, 1, 1, 2, 2, 9, 0, 6, 7, 8, 10, 11, 0, 5, 0, 3, 0, 4, 0]
        self.assertEqual(answers(calls),
                         [1, 0, 1, 0, 1, 0, 1, 3, 1, 3, 1, 0, 3, 2, 0, 1, 3, 2, 0, 1, 1, 0, 1, 3, 1, 0, 1, 0])

    def test_how_promises_are_written(self):
        calls = [0, 2, 1, 0, 0, 1, 1, 12, 2, 13, 1, 1, 3, 14, 0, 14, 1, 15, 0, 14, 0]
        self.assertEqual(answers(calls), [1, 0, 1, 0, 1, 0, 1, 1, 4, 0, 2, 0, 0, 4, 1, 1, 1, 3, 1, 1, 4, 1, 1, 1, 3])

    def test_how_plans_are_written(self):
        calls = [0, 2, 1, 0, 0, 1, 1, 1, 1, 1, 2, 2, 16, 2, 2, 5, 17, 2, 2, 5, 18, 2, 2, 5, 19, 3, 3, 20, 4, 21, 4,
                 22, 1, 23]
        self.assertEqual(answers(calls), [1, 0, 1, 0, 1, 1, 1, 2, 3, 2, 0, 1, 2, 3, 2, 1, 0, 1, 1, 1, -33, 2, 1, 3,
                                          6, 5, 2, 2, 0, 0, 2])

    def test_a_refusal_is_its_number_alone(self):
        calls = flat(["begin 2", "promisefacts 4", "promiseaim 1 1 1", "promiseis 0", "unpromise 0", "could 1 1 1",
                      "plan 1 1 1", "run 1 1 1", "plainly 1 1", "lasts 11", "restore 11", "entry 0"])
        self.assertEqual(answers(calls), [1, 0, 1, -22, 1, -30, 1, -2, 1, -2, 1, -33, 1, -33, 1, -33, 1, -33, 1, -22,
                                          1, -22, 1, -2])

    def test_what_is_handed_in_is_never_changed(self):
        self.assertEqual(answers(Guarded(LONG)), answers(list(LONG)))

    def test_what_is_handed_in_stays(self):
        calls = list(LONG)
        answers(calls)
        self.assertEqual(calls, LONG)

    def test_two_times_in_a_row(self):
        first = answers(list(LONG))
        self.assertEqual(answers(list(LONG)), first)

    def test_nothing_is_kept(self):
        answers([0, 2, 5, 3, 12, 1, 9, 0])
        self.assertEqual(answers([6]), [1, -11])
        self.assertEqual(answers([0, 2, 6, 14, 0, 22, 0]), [1, 0, 1, 0, 1, -2, 1, -2])

    def test_whole_numbers_in_a_list(self):
        given = answers(list(LONG))
        self.assertIs(type(given), list)
        self.assertEqual({type(number) for number in given}, {int})

    def test_sixty_calls(self):
        self.assertEqual(answers([0, 2] + [9, 0] * 59), [1, 0] + [1, 0] * 30 + [1, -28] * 29)


if __name__ == "__main__":
    unittest.main()
