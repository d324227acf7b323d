"""Promises 8 and 9: marks that are worn off, and what can still be read."""

import unittest

from helper import ask_of, ask_worn, one_of, one_worn, readable_by_looking, worn_verniers


class Wear(unittest.TestCase):
    def test_how_many_are_worn_off_then(self):
        told = ask_of((10, 9, 20, 10), ("wear", 4), ("wear", 9), ("wear", 1))
        self.assertEqual(told, [[1], [2], [3]])

    def test_the_slides_first_mark_its_last_one_and_one_past_it(self):
        told = ask_of((10, 9, 20, 10), ("wear", 0), ("wear", 10), ("wear", 11), ("wear", 99), ("look",))
        self.assertEqual(told, [[1], [2], [-1], [-1], [10, 9, 20, 10, 0, 0, 2, 0, 10]])
        self.assertEqual(ask_of((1, 1, 60, 1), ("wear", 1), ("wear", 2)), [[1], [-1]])
        self.assertEqual(ask_of((1, 1, 1, 60), ("wear", 60), ("wear", 61)), [[1], [-1]])

    def test_one_that_is_already(self):
        told = ask_of((10, 9, 20, 10), ("wear", 4), ("wear", 4), ("wear", 0), ("wear", 0), ("wear", 4), ("wear", 5))
        self.assertEqual(told, [[1], [-3], [2], [-3], [-3], [3]])

    def test_a_refusal_changes_nothing(self):
        told = ask_of((10, 9, 20, 10), ("wear", 4), ("look",), ("wear", 4), ("look",), ("wear", 11), ("look",))
        self.assertEqual([told[1], told[3], told[5]], [[10, 9, 20, 10, 0, 0, 1, 4]] * 3)

    def test_all_of_them(self):
        told = ask_of((10, 9, 20, 2), ("wear", 1), ("wear", 2), ("wear", 0), ("wear", 0), ("wear", 3), ("meets", 0))
        self.assertEqual(told, [[1], [2], [3], [-3], [-1], [0]])

    def test_it_is_as_of_then_and_not_before(self):
        told = ask_of((10, 9, 20, 10), ("meets", 3), ("nearest", 3), ("out", 3, 3), ("wear", 3), ("meets", 3),
                      ("nearest", 3), ("out", 3, 3))
        self.assertEqual(told, [[1, 3, 3], [0, 3], [3], [1], [0], [1, 2], [-3]])


class Readable(unittest.TestCase):
    def test_ordinary_ones(self):
        self.assertEqual(one_of((10, 9, 20, 10), "readable", 3), [10, 30, 31, 32, 33, 34, 35, 36, 37, 38, 39])
        self.assertEqual(one_of((10, 9, 20, 4), "readable", 3), [5, 30, 31, 32, 33, 34])
        self.assertEqual(one_of((12, 8, 5, 7), "readable", 1), [3, 12, 16, 20])
        self.assertEqual(one_of((7, 21, 6, 9), "readable", 2), [1, 14])

    def test_the_scales_first_mark(self):
        self.assertEqual(one_of((10, 9, 20, 4), "readable", 0), [5, 0, 1, 2, 3, 4])
        self.assertEqual(one_of((10, 11, 20, 4), "readable", 0), [5, 0, 6, 7, 8, 9])
        self.assertEqual(one_of((1, 1, 1, 1), "readable", 0), [1, 0])

    def test_the_last_mark_but_one_the_last_one_and_past_it(self):
        told = ask_of((10, 9, 20, 10), ("readable", 19), ("readable", 20), ("readable", 21), ("readable", 99))
        self.assertEqual(told, [[2, 190, 191], [-1], [-1], [-1]])
        self.assertEqual(ask_of((60, 1, 1, 2), ("readable", 0), ("readable", 1)), [[3, 0, 58, 59], [-1]])
        self.assertEqual(ask_of((1, 60, 60, 60), ("readable", 59), ("readable", 60)), [[1, 59], [-1]])

    def test_the_next_mark_itself_is_not_one_of_them(self):
        told = ask_of((10, 10, 20, 10), ("readable", 0), ("readable", 1), ("readable", 19))
        self.assertEqual(told, [[1, 0], [1, 10], [1, 190]])

    def test_where_a_meeting_mark_would_lie_past_the_scale(self):
        told = ask_of((10, 9, 4, 10), ("readable", 0), ("readable", 1), ("readable", 2), ("readable", 3))
        self.assertEqual(told, [[5, 0, 1, 2, 3, 4], [4, 10, 11, 12, 13], [3, 20, 21, 22], [2, 30, 31]])

    def test_marks_worn_off_are_left_out(self):
        told = ask_worn((10, 9, 20, 10), [7, 0, 3], ("readable", 0), ("readable", 2), ("readable", 19))
        self.assertEqual(told, [[8, 0, 1, 2, 4, 5, 6, 8, 9], [8, 20, 21, 22, 24, 25, 26, 28, 29], [1, 191]])

    def test_none(self):
        self.assertEqual(one_worn((10, 9, 20, 10), [0, 1], "readable", 19), [0])
        self.assertEqual(one_worn((10, 9, 20, 1), [1, 0], "readable", 0), [0])
        self.assertEqual(one_worn((10, 9, 20, 1), [1, 0], "readable", 20), [-1])

    def test_where_the_slide_is_and_zero_do_not_count(self):
        told = ask_of((12, 8, 5, 7), ("zero", 7), ("slide", 31), ("readable", 1), ("look",))
        self.assertEqual(told[2:], [[3, 12, 16, 20], [12, 8, 5, 7, 7, 31, 0]])

    def test_each_x_is_one_where_meets_tells_some(self):
        shown = [x for x in range(10, 20) if one_worn((10, 7, 5, 6), [2], "meets", x) != [0]]
        self.assertEqual(one_worn((10, 7, 5, 6), [2], "readable", 1), [len(shown)] + shown)

    def test_every_mark_of_some_verniers(self):
        for vernier, worn in worn_verniers():
            told = ask_worn(vernier, worn, *[("readable", i) for i in range(vernier[2] + 2)])
            due = [readable_by_looking(vernier, worn, i) for i in range(vernier[2])]
            self.assertEqual(told, due + [[-1], [-1]], (vernier, worn))


if __name__ == "__main__":
    unittest.main()
