"""What is handed in, what is given back, and what is kept: nothing."""

import contextlib
import io
import unittest

from slidingscale.vernier import answers

from helper import ask, flat

MIXED = [
    ("step",), ("begin", 10, 9, 20, 10), ("fine",), ("meets", 0), ("meets", 201), ("out", 7, 4), ("nearest", 5),
    ("slides", 5), ("step",), ("begin", 0, 0, 0, 0), ("out", 0, 9), ("wear", 10), ("wear", 0), ("readable", 19),
    ("zero", -7), ("slide", 191), ("read",), ("zero", 61), ("look",), ("slide", 200), ("read",), ("wear", 10),
]
MIXED_ANSWERED = [
    1, -9, 1, 0, 3, 1, 10, 1, 5, 2, 0, 0, 9, 10, 1, -1, 1, 34, 2, 0, 5, 3, 2, 5, 15, 1, 1, 1, -1, 1, -6,
    1, 1, 1, 2, 2, 1, 191, 1, 0, 1, 1, 2, 0, 198, 1, -1, 9, 10, 9, 20, 10, -7, 191, 2, 10, 0, 1, 0, 1, -6, 1, -3,
]


class Interface(unittest.TestCase):
    def test_for_each_call_how_many_numbers_then_these(self):
        self.assertEqual(answers(flat(*MIXED)), MIXED_ANSWERED)

    def test_the_numbers_of_the_calls(self):
        self.assertEqual(answers([0, 10, 9, 20, 10, 1, 2, 4, 3, 7, 4, 4, 3, 5, 5, 6]),
                         [1, 0, 3, 1, 10, 1, 3, 1, 4, 4, 1, 34, 2, 0, 3, 3, 2, 5, 15, 1, 1])
        self.assertEqual(answers([0, 10, 9, 20, 10, 7, 1, 8, 19, 9, 6, 10, 3, 11, 12]),
                         [1, 0, 1, 1, 2, 1, 190, 1, 0, 1, 1, 2, 0, -3, 8, 10, 9, 20, 10, 6, 3, 1, 1])

    def test_one_call_alone(self):
        self.assertEqual(answers([0, 10, 9, 20, 10]), [1, 0])
        self.assertEqual(answers([12]), [1, -9])

    def test_whole_numbers_in_a_list_and_no_truth_values(self):
        given = answers(flat(*MIXED))
        self.assertIs(type(given), list)
        self.assertEqual({type(number) for number in given}, {int})

    def test_what_is_handed_in_is_not_changed(self):
        class Guarded(list):
            def refuse(self, *handed):
                raise AssertionError("what was handed in is changed")

            append = extend = insert = pop = remove = clear = sort = reverse = refuse
            __setitem__ = __delitem__ = __iadd__ = __imul__ = refuse

        calls = Guarded(flat(*MIXED))
        self.assertEqual(answers(calls), MIXED_ANSWERED)
        self.assertEqual(list(calls), flat(*MIXED))

    def test_nothing_is_kept_from_one_time_to_the_next(self):
        self.assertEqual(answers(flat(("begin", 10, 9, 20, 10))), [1, 0])
        self.assertEqual(answers(flat(("fine",))), [1, -9])
        self.assertEqual(answers(flat(("begin", 10, 9, 20, 10), ("wear", 3), ("zero", 4), ("slide", 5)))[0], 1)
        self.assertEqual(ask(("begin", 10, 9, 20, 10), ("look",))[1], [10, 9, 20, 10, 0, 0, 0])
        first = answers(flat(*MIXED))
        first.clear()
        self.assertEqual(answers(flat(*MIXED)), MIXED_ANSWERED)

    def test_nothing_is_printed(self):
        printed = io.StringIO()
        with contextlib.redirect_stdout(printed), contextlib.redirect_stderr(printed):
            answers(flat(*MIXED))
        self.assertEqual(printed.getvalue(), "")

    def test_sixty_calls(self):
        told = ask(("begin", 1, 1, 60, 60), *[("meets", 0)] * 59)
        every = [61] + [mark for j in range(61) for mark in (j, j)]
        self.assertEqual(told, [[0]] + [every] * 59)

    def test_three_hundred_numbers(self):
        calls = [("begin", 60, 59, 60, 60)] * 60
        self.assertEqual(len(flat(*calls)), 300)
        self.assertEqual(ask(*calls), [[0]] * 60)


if __name__ == "__main__":
    unittest.main()
