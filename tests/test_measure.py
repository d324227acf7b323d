"""Promises 10 to 13: what is read where nothing is measured, the slide moved, read, and all that is kept."""

import unittest

from helper import ask_of, ask_worn, meets_by_looking, worn_verniers


class Zero(unittest.TestCase):
    def test_from_minus_60_to_60(self):
        for z in range(-99, 100):
            told = ask_of((10, 9, 20, 10), ("zero", 8), ("zero", z), ("look",), ("read",))
            within = -60 <= z <= 60
            kept = z if within else 8
            self.assertEqual(told[1:], [[0] if within else [-1], [10, 9, 20, 10, kept, 0, 0], [0, -kept]], z)

    def test_the_edges(self):
        told = ask_of((10, 9, 20, 10), ("zero", -61), ("zero", -60), ("zero", 0), ("zero", 60), ("zero", 61))
        self.assertEqual(told, [[-1], [0], [0], [0], [-1]])

    def test_the_last_one_counts(self):
        told = ask_of((10, 9, 20, 10), ("slide", 34), ("zero", 5), ("read",), ("zero", -3), ("read",), ("zero", 0),
                      ("read",))
        self.assertEqual(told, [[1], [0], [0, 29], [0], [0, 37], [0], [0, 34]])

    def test_only_read_and_look_go_by_it(self):
        asked = [("fine",), ("meets", 37), ("out", 7, 4), ("nearest", 5), ("slides", 5), ("step",), ("readable", 19),
                 ("slide", 37), ("wear", 2)]
        self.assertEqual(ask_of((10, 9, 20, 10), ("zero", 4), *asked)[1:], ask_of((10, 9, 20, 10), *asked))

    def test_it_is_bound_by_60_and_not_by_the_scale(self):
        told = ask_of((1, 1, 1, 1), ("zero", 60), ("read",), ("zero", -60), ("read",))
        self.assertEqual(told, [[0], [0, -60], [0], [0, 60]])


class Slide(unittest.TestCase):
    def test_how_many_marks_meet(self):
        told = ask_of((12, 8, 5, 7), ("slide", 4), ("slide", 5), ("slide", 0), ("slide", 60), ("slide", 56))
        self.assertEqual(told, [[3], [0], [3], [1], [0]])
        self.assertEqual(ask_of((10, 9, 20, 10), ("slide", 0), ("slide", 3)), [[2], [1]])

    def test_where_it_is_then_also_where_no_marks_meet(self):
        told = ask_of((12, 8, 5, 7), ("slide", 4), ("look",), ("slide", 5), ("look",), ("slide", 0), ("look",))
        self.assertEqual(told[1::2], [[12, 8, 5, 7, 0, 4, 0], [12, 8, 5, 7, 0, 5, 0], [12, 8, 5, 7, 0, 0, 0]])

    def test_as_much_as_the_scale_is_long_and_one_more(self):
        told = ask_of((10, 9, 20, 10), ("slide", 200), ("look",), ("slide", 201), ("slide", 5000), ("look",), ("read",))
        kept = [10, 9, 20, 10, 0, 200, 0]
        self.assertEqual(told, [[1], kept, [-1], [-1], kept, [0, 200]])
        self.assertEqual(ask_of((1, 1, 1, 1), ("slide", 1), ("slide", 2)), [[1], [-1]])
        self.assertEqual(ask_of((60, 60, 60, 60), ("slide", 3600), ("slide", 3601)), [[1], [-1]])

    def test_zero_does_not_move_the_scales_end(self):
        told = ask_of((10, 9, 20, 10), ("zero", 60), ("slide", 201), ("zero", -60), ("slide", 200), ("slide", 201))
        self.assertEqual(told, [[0], [-1], [0], [1], [-1]])

    def test_marks_worn_off_are_left_out(self):
        told = ask_of((12, 8, 5, 7), ("wear", 4), ("slide", 4), ("wear", 1), ("slide", 4), ("wear", 7), ("slide", 4))
        self.assertEqual(told, [[1], [2], [2], [1], [3], [0]])

    def test_meets_and_nearest_do_not_move_it(self):
        told = ask_of((10, 9, 20, 10), ("slide", 34), ("meets", 5), ("nearest", 6), ("out", 3, 3), ("readable", 1),
                      ("look",), ("read",))
        self.assertEqual(told[-2:], [[10, 9, 20, 10, 0, 34, 0], [0, 34]])

    def test_every_x_of_some_verniers(self):
        for vernier, worn in worn_verniers():
            every = range(vernier[0] * vernier[2] + 1)
            told = ask_worn(vernier, worn, *[("slide", x) for x in every])
            self.assertEqual(told, [meets_by_looking(vernier, worn, x)[:1] for x in every], (vernier, worn))


class Read(unittest.TestCase):
    def test_ahead_of_any_slide_and_zero(self):
        self.assertEqual(ask_of((10, 9, 20, 10), ("read",)), [[0, 0]])

    def test_how_far_out_less_zero(self):
        told = ask_of((10, 9, 20, 10), ("slide", 34), ("read",), ("zero", 4), ("read",), ("zero", -4), ("read",))
        self.assertEqual(told[1::2], [[0, 34], [0, 30], [0, 38]])

    def test_zero_more_than_the_slide_is_out(self):
        told = ask_of((10, 9, 20, 10), ("slide", 3), ("zero", 3), ("read",), ("zero", 4), ("read",), ("zero", 60),
                      ("read",))
        self.assertEqual(told[2::2], [[0, 0], [0, -1], [0, -57]])

    def test_what_looks_like_a_refusal_is_none(self):
        for z in (1, 3, 6, 9):
            self.assertEqual(ask_of((10, 9, 20, 10), ("zero", z), ("read",))[1], [0, -z])

    def test_the_most_and_the_least(self):
        told = ask_of((60, 60, 60, 60), ("zero", 60), ("read",), ("zero", -60), ("slide", 3600), ("read",))
        self.assertEqual([told[1], told[4]], [[0, -60], [0, 3660]])

    def test_no_marks_meet(self):
        self.assertEqual(ask_of((12, 8, 5, 7), ("slide", 5), ("read",)), [[0], [-6]])
        self.assertEqual(ask_of((10, 9, 20, 3), ("slide", 5), ("zero", 7), ("read",)), [[0], [0], [-6]])

    def test_a_meeting_mark_past_the_scale_does_not_count(self):
        told = ask_of((10, 9, 4, 10), ("slide", 4), ("read",), ("slide", 5), ("read",))
        self.assertEqual(told, [[1], [0, 4], [0], [-6]])

    def test_the_mark_that_met_is_worn_off(self):
        told = ask_of((10, 9, 20, 10), ("slide", 3), ("read",), ("wear", 3), ("read",), ("slide", 4), ("read",))
        self.assertEqual(told, [[1], [0, 3], [1], [-6], [1], [0, 4]])

    def test_another_mark_that_meets_is_enough(self):
        told = ask_of((10, 9, 20, 10), ("wear", 0), ("read",), ("wear", 10), ("read",))
        self.assertEqual(told, [[1], [0, 0], [2], [-6]])

    def test_behind_a_slide_that_is_refused(self):
        told = ask_of((10, 9, 20, 10), ("slide", 34), ("slide", 201), ("read",), ("zero", 61), ("read",))
        self.assertEqual(told, [[1], [-1], [0, 34], [-1], [0, 34]])


class Look(unittest.TestCase):
    def test_the_numbers_in_their_order(self):
        told = ask_of((7, 5, 3, 4), ("zero", -2), ("slide", 11), ("wear", 1), ("look",))
        self.assertEqual(told[-1], [7, 5, 3, 4, -2, 11, 1, 1])

    def test_marks_in_the_order_in_which_they_were_worn_off(self):
        told = ask_of((10, 9, 20, 10), ("wear", 7), ("wear", 10), ("wear", 0), ("wear", 3), ("wear", 7), ("look",))
        self.assertEqual(told[-1], [10, 9, 20, 10, 0, 0, 4, 7, 10, 0, 3])

    def test_all_marks_worn_off_falling(self):
        told = ask_worn((10, 9, 20, 10), list(range(10, -1, -1)), ("look",))
        self.assertEqual(told, [[10, 9, 20, 10, 0, 0, 11, 10, 9, 8, 7, 6, 5, 4, 3, 2, 1, 0]])

    def test_an_answer_given_once_does_not_grow(self):
        told = ask_of((10, 9, 20, 10), ("wear", 7), ("look",), ("look",), ("wear", 2), ("look",))
        self.assertEqual([told[1], told[2]], [[10, 9, 20, 10, 0, 0, 1, 7]] * 2)
        self.assertEqual(told[4], [10, 9, 20, 10, 0, 0, 2, 7, 2])

    def test_asking_changes_nothing(self):
        asked = [("fine",), ("meets", 37), ("out", 7, 4), ("nearest", 5), ("slides", 5), ("step",), ("readable", 19),
                 ("read",), ("look",)]
        before = [("wear", 6), ("wear", 2), ("zero", -9), ("slide", 44), ("look",)]
        for call in asked:
            told = ask_of((10, 9, 20, 10), *before, call, ("look",))
            self.assertEqual(told[-1], [10, 9, 20, 10, -9, 44, 2, 6, 2], call)


if __name__ == "__main__":
    unittest.main()
