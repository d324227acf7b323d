"""Promise 1, and what holds for every call: no vernier yet, refusals that change nothing."""

import unittest

from helper import ask, ask_of

WITHOUT_A_VERNIER = [
    ("fine",), ("meets", 0), ("out", 0, 0), ("nearest", 0), ("slides", 1), ("step",), ("wear", 0),
    ("readable", 0), ("zero", 0), ("slide", 0), ("read",), ("look",),
]
WOULD_BE_REFUSED_ANYHOW = [
    ("meets", 5000), ("out", 99, 99), ("nearest", 5000), ("slides", 0), ("wear", 99), ("readable", 99),
    ("zero", -99), ("zero", 99), ("slide", 5000),
]
# Something of all that a vernier keeps.
USED = [("wear", 3), ("wear", 0), ("zero", 5), ("slide", 7)]
# Each refusal that such a vernier, (10, 9, 20, 10), gives.
REFUSED = {
    ("begin", 61, 1, 1, 1): -1, ("begin", 1, 1, 1, 0): -1, ("meets", 201): -1, ("out", 21, 0): -1, ("out", 0, 11): -1,
    ("out", 4, 3): -3, ("out", 0, 1): -6, ("nearest", 201): -1, ("nearest", 200): -6, ("slides", 0): -1,
    ("wear", 11): -1, ("wear", 3): -3, ("readable", 20): -1, ("readable", 21): -1, ("zero", -61): -1,
    ("zero", 61): -1, ("slide", 201): -1,
}


class Begin(unittest.TestCase):
    def test_takes_each_number_from_1_to_60(self):
        for place in range(4):
            for number in range(0, 100):
                handed = [10, 9, 20, 10]
                handed[place] = number
                due = [0] if 1 <= number <= 60 else [-1]
                self.assertEqual(ask(("begin", *handed)), [due], handed)

    def test_takes_all_at_their_least_and_at_their_most(self):
        self.assertEqual(ask(("begin", 1, 1, 1, 1)), [[0]])
        self.assertEqual(ask(("begin", 60, 60, 60, 60)), [[0]])

    def test_refuses_several_wrong_ones_once(self):
        self.assertEqual(ask(("begin", 0, 61, 99, 0)), [[-1]])

    def test_the_four_are_taken_in_their_order(self):
        # The scale ends at mark 3, the slide at mark 4; 7 and 5 parts lie between the marks.
        told = ask_of((7, 5, 3, 4), ("out", 1, 1), ("out", 3, 4), ("out", 4, 0), ("out", 0, 5), ("meets", 21),
                      ("meets", 22))
        self.assertEqual(told, [[2], [1], [-1], [-1], [1, 3, 0], [-1]])

    def test_takes_the_place_of_what_there_was(self):
        told = ask(("begin", 10, 9, 20, 10), ("fine",), ("begin", 12, 8, 5, 1), ("fine",), ("out", 5, 1), ("out", 6, 0))
        self.assertEqual(told, [[0], [1, 10, 1], [0], [4, 3, 0], [52], [-1]])

    def test_starts_with_nothing_worn_off_zero_0_and_out_by_0(self):
        self.assertEqual(ask_of((10, 9, 20, 11), ("look",)), [[10, 9, 20, 11, 0, 0, 0]])

    def test_sets_all_anew_with_a_vernier_there_already(self):
        told = ask_of((10, 9, 20, 10), *USED, ("begin", 12, 8, 5, 7), ("look",), ("meets", 4), ("wear", 4), ("read",))
        self.assertEqual(told[len(USED):], [[0], [12, 8, 5, 7, 0, 0, 0], [3, 1, 1, 3, 4, 5, 7], [1], [0, 0]])

    def test_sets_all_anew_with_the_same_numbers_too(self):
        told = ask_of((10, 9, 20, 10), *USED, ("begin", 10, 9, 20, 10), ("look",))
        self.assertEqual(told[-1], [10, 9, 20, 10, 0, 0, 0])

    def test_a_refusal_leaves_the_vernier_as_it_was(self):
        for refused in [(0, 8, 5, 7), (12, 61, 5, 7), (12, 8, 0, 7), (12, 8, 5, 61)]:
            told = ask_of((10, 9, 20, 10), *USED, ("begin", *refused), ("look",), ("out", 20, 10), ("meets", 3),
                          ("read",))
            due = [[-1], [10, 9, 20, 10, 5, 7, 2, 3, 0], [110], [0], [0, 2]]
            self.assertEqual(told[len(USED):], due, refused)


class WithoutAVernier(unittest.TestCase):
    def test_every_call_but_begin_answers_minus_9(self):
        for call in WITHOUT_A_VERNIER:
            self.assertEqual(ask(call), [[-9]], call)

    def test_minus_9_comes_ahead_of_all_else(self):
        for call in WOULD_BE_REFUSED_ANYHOW:
            self.assertEqual(ask(call), [[-9]], call)

    def test_all_in_one_line_and_a_vernier_behind_them(self):
        told = ask(*WITHOUT_A_VERNIER, *WOULD_BE_REFUSED_ANYHOW, ("begin", 10, 9, 20, 10), ("step",))
        before = len(WITHOUT_A_VERNIER) + len(WOULD_BE_REFUSED_ANYHOW)
        self.assertEqual(told, [[-9]] * before + [[0], [1]])

    def test_a_begin_that_is_refused_brings_none(self):
        self.assertEqual(ask(("begin", 0, 9, 20, 10), ("fine",), ("step",)), [[-1], [-9], [-9]])


class Refusals(unittest.TestCase):
    def test_they_change_nothing(self):
        asked = [
            ("look",), ("read",), ("fine",), ("meets", 4), ("out", 4, 2), ("nearest", 5), ("slides", 2), ("step",),
            ("readable", 19), ("wear", 9), ("look",),
        ]
        undisturbed = ask_of((10, 9, 20, 10), *USED, *asked)
        for call, due in REFUSED.items():
            told = ask_of((10, 9, 20, 10), *USED, call, *asked)
            self.assertEqual(told[len(USED)], [due], call)
            self.assertEqual(told[:len(USED)] + told[len(USED) + 1:], undisturbed, call)

    def test_read_refused_changes_nothing(self):
        told = ask_of((10, 9, 20, 10), *USED, ("wear", 7), ("look",), ("read",), ("look",))
        self.assertEqual(told[-2], [-6])
        self.assertEqual(told[-1], told[-3])


if __name__ == "__main__":
    unittest.main()
