"""Promise 1, and what holds for every call: no vernier yet, refusals that change nothing."""

import unittest

from helper import ask, ask_of, one_on, worn_line

WITHOUT_A_VERNIER = [
    ("fine",), ("meets", 0), ("out", 0, 0), ("nearest", 0), ("slides", 1), ("step",), ("wear", 0),
    ("readable", 0), ("zero", 0), ("slide", 0), ("read",), ("look",),
]
WOULD_BE_REFUSED_ANYHOW = [
    ("meets", 5000), ("out", 99, 99), ("nearest", 5000), ("slides", 0), ("wear", 99), ("readable", 99),
    ("zero", -99), ("zero", 99), ("slide", 5000),
]


class Begin(unittest.TestCase):
    def test_takes_each_number_from_1_to_60(self):
        for place in range(4):
            for number in range(0, 100):
                handed = [10, 9, 20, 10]
                handed[place] = number
                due = [0] if 1 <= number <= 60 else [-1]
                self.assertEqual(ask(("begin", *handed)), [due], handed)

    def test_takes_all_at_their_least_and_at_their_most(self):
        self.assertEqual(ask(("begin", 1, 1, 1, 1)), [[0]])
        self.assertEqual(ask(("begin", 60, 60, 60, 60)), [[0]])

    def test_refuses_several_wrong_ones_once(self):
        self.assertEqual(ask(("begin", 0, 61, 99, 0)), [[-1]])

    def test_the_four_are_taken_in_their_order(self):
        # The scale ends at mark 3, the slide at mark 4; 7 and 5 parts lie between the marks.
        told = ask_of((7, 5, 3, 4), ("out", 1, 1), ("out", 3, 4), ("out", 4, 0), ("out", 0, 5), ("meets", 21),
                      ("meets", 22))
        self.assertEqual(told, [[2], [1], [-1], [-1], [1, 3, 0], [-1]])

    def test_takes_the_place_of_what_there_was(self):
        told = ask(("begin", 10, 9, 20, 10), ("fine",), ("begin", 12, 8, 5, 1), ("fine",), ("out", 5, 1), ("out", 6, 0))
        self.assertEqual(told, [[0], [1, 10, 1], [0], [4, 3, 0], [52], [-1]])

    def test_starts_with_nothing_worn_off_zero_0_and_out_by_0(self):
        line = worn_line((10, 9, 20, 10), [0, 3])
        line.vernier.zero = 5
        line.vernier.out_by = 7
        self.assertEqual(one_on(line, "begin", 10, 9, 20, 10), [0])
        self.assertEqual(line.vernier.worn, [])
        self.assertEqual(line.vernier.zero, 0)
        self.assertEqual(line.vernier.out_by, 0)

    def test_a_refusal_leaves_the_vernier_as_it_was(self):
        line = worn_line((10, 9, 20, 10), [3])
        line.vernier.zero = 5
        line.vernier.out_by = 7
        self.assertEqual(one_on(line, "begin", 10, 9, 20, 61), [-1])
        self.assertEqual(one_on(line, "out", 20, 10), [110])
        self.assertEqual(line.vernier.worn, [3])
        self.assertEqual(line.vernier.zero, 5)
        self.assertEqual(line.vernier.out_by, 7)


class WithoutAVernier(unittest.TestCase):
    def test_every_call_but_begin_answers_minus_9(self):
        for call in WITHOUT_A_VERNIER:
            self.assertEqual(ask(call), [[-9]], call)

    def test_minus_9_comes_ahead_of_all_else(self):
        for call in WOULD_BE_REFUSED_ANYHOW:
            self.assertEqual(ask(call), [[-9]], call)

    def test_all_in_one_line_and_a_vernier_behind_them(self):
        told = ask(*WITHOUT_A_VERNIER, *WOULD_BE_REFUSED_ANYHOW, ("begin", 10, 9, 20, 10), ("step",))
        before = len(WITHOUT_A_VERNIER) + len(WOULD_BE_REFUSED_ANYHOW)
        self.assertEqual(told, [[-9]] * before + [[0], [1]])

    def test_a_begin_that_is_refused_brings_none(self):
        self.assertEqual(ask(("begin", 0, 9, 20, 10), ("fine",), ("step",)), [[-1], [-9], [-9]])


class Refusals(unittest.TestCase):
    def test_they_change_nothing(self):
        asked = [("fine",), ("meets", 4), ("out", 3, 2), ("nearest", 5), ("slides", 2), ("step",)]
        refused = [
            ("begin", 61, 1, 1, 1), ("begin", 1, 1, 1, 0), ("meets", 201), ("out", 21, 0), ("out", 0, 11),
            ("out", 0, 1), ("nearest", 201), ("slides", 0),
        ]
        undisturbed = ask_of((10, 9, 20, 10), *asked)
        for call in refused:
            told = ask_of((10, 9, 20, 10), call, *asked)
            self.assertEqual(len(told[0]), 1, call)
            self.assertLess(told[0][0], 0, call)
            self.assertEqual(told[1:], undisturbed, call)


if __name__ == "__main__":
    unittest.main()
