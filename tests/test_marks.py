"""Promises 3, 4 and 5: which marks meet, how far out that is, and which mark is nearest."""

import unittest

from helper import ask_of, ask_worn, meets_by_looking, nearest_by_looking, one_of, one_worn, worn_verniers


class Meets(unittest.TestCase):
    def test_ordinary_ones(self):
        self.assertEqual(one_of((10, 9, 20, 10), "meets", 0), [2, 0, 0, 9, 10])
        self.assertEqual(one_of((10, 9, 20, 10), "meets", 3), [1, 3, 3])
        self.assertEqual(one_of((10, 9, 20, 10), "meets", 37), [1, 10, 7])
        self.assertEqual(one_of((10, 11, 20, 10), "meets", 1), [1, 10, 9])

    def test_none(self):
        self.assertEqual(one_of((10, 8, 20, 10), "meets", 1), [0])
        self.assertEqual(one_of((10, 9, 20, 3), "meets", 5), [0])

    def test_several_by_the_slides_mark(self):
        self.assertEqual(one_of((12, 8, 5, 7), "meets", 4), [3, 1, 1, 3, 4, 5, 7])
        self.assertEqual(one_of((5, 5, 3, 9), "meets", 0), [4, 0, 0, 1, 1, 2, 2, 3, 3])

    def test_the_scales_last_mark_and_none_behind_it(self):
        self.assertEqual(one_of((10, 10, 3, 1), "meets", 20), [2, 2, 0, 3, 1])
        self.assertEqual(one_of((10, 10, 3, 2), "meets", 20), [2, 2, 0, 3, 1])
        self.assertEqual(one_of((10, 9, 1, 10), "meets", 2), [0])

    def test_the_slides_last_mark_and_none_behind_it(self):
        self.assertEqual(one_of((10, 9, 20, 4), "meets", 4), [1, 4, 4])
        self.assertEqual(one_of((10, 9, 20, 3), "meets", 4), [0])

    def test_x_as_much_as_the_scale_is_long_and_one_more(self):
        self.assertEqual(one_of((10, 9, 20, 10), "meets", 200), [1, 20, 0])
        self.assertEqual(one_of((10, 9, 20, 10), "meets", 201), [-1])
        self.assertEqual(one_of((1, 1, 1, 1), "meets", 1), [1, 1, 0])
        self.assertEqual(one_of((1, 1, 1, 1), "meets", 2), [-1])
        self.assertEqual(one_of((60, 60, 60, 60), "meets", 3600), [1, 60, 0])
        self.assertEqual(one_of((60, 60, 60, 60), "meets", 3601), [-1])
        self.assertEqual(one_of((60, 60, 60, 60), "meets", 5000), [-1])

    def test_marks_worn_off_are_left_out(self):
        self.assertEqual(one_worn((12, 8, 5, 7), [4], "meets", 4), [2, 1, 1, 5, 7])
        told = ask_worn((10, 9, 20, 10), [3], ("meets", 3), ("meets", 4), ("meets", 201))
        self.assertEqual(told, [[0], [1, 4, 4], [-1]])
        self.assertEqual(one_worn((10, 9, 20, 10), [0], "meets", 0), [1, 9, 10])
        self.assertEqual(one_worn((10, 9, 20, 10), [10], "meets", 0), [1, 0, 0])

    def test_every_x_of_some_verniers(self):
        for vernier, worn in worn_verniers():
            every = range(vernier[0] * vernier[2] + 1)
            told = ask_worn(vernier, worn, *[("meets", x) for x in every])
            self.assertEqual(told, [meets_by_looking(vernier, worn, x) for x in every], (vernier, worn))


class Out(unittest.TestCase):
    def test_ordinary_ones(self):
        self.assertEqual(one_of((10, 9, 20, 10), "out", 7, 4), [34])
        self.assertEqual(one_of((10, 9, 20, 10), "out", 3, 3), [3])
        self.assertEqual(one_of((7, 12, 30, 5), "out", 30, 5), [150])

    def test_first_marks_last_marks_and_one_past(self):
        vernier = (10, 9, 20, 10)
        self.assertEqual(one_of(vernier, "out", 0, 0), [0])
        self.assertEqual(one_of(vernier, "out", 20, 0), [200])
        self.assertEqual(one_of(vernier, "out", 20, 10), [110])
        self.assertEqual(one_of(vernier, "out", 21, 0), [-1])
        self.assertEqual(one_of(vernier, "out", 20, 11), [-1])
        self.assertEqual(one_of(vernier, "out", 99, 99), [-1])
        self.assertEqual(one_of((60, 60, 60, 60), "out", 60, 60), [0])
        self.assertEqual(one_of((60, 1, 60, 60), "out", 60, 0), [3600])

    def test_0_is_out_and_less_is_refused(self):
        self.assertEqual(one_of((10, 9, 20, 10), "out", 9, 10), [0])
        self.assertEqual(one_of((10, 9, 20, 10), "out", 8, 9), [-6])
        self.assertEqual(one_of((10, 9, 20, 10), "out", 0, 1), [-6])
        self.assertEqual(one_of((10, 11, 20, 10), "out", 1, 1), [-6])
        self.assertEqual(one_of((1, 2, 1, 1), "out", 1, 1), [-6])

    def test_a_mark_worn_off(self):
        told = ask_worn((10, 9, 20, 10), [4, 0, 10], ("out", 7, 4), ("out", 7, 0), ("out", 20, 10), ("out", 4, 3))
        self.assertEqual(told, [[-3], [-3], [-3], [13]])

    def test_where_several_are_due_the_first_told_counts(self):
        told = ask_worn((10, 9, 20, 10), [4], ("out", 21, 4), ("out", 0, 11), ("out", 0, 4))
        self.assertEqual(told, [[-1], [-1], [-3]])

    def test_it_is_where_meets_shows_the_pair(self):
        for i, j in [(0, 0), (5, 3), (20, 10), (9, 10)]:
            x = one_of((10, 9, 20, 10), "out", i, j)[0]
            told = one_of((10, 9, 20, 10), "meets", x)
            self.assertIn((i, j), list(zip(told[1::2], told[2::2])))


class Nearest(unittest.TestCase):
    def test_ordinary_ones(self):
        self.assertEqual(one_of((10, 9, 20, 10), "nearest", 3), [0, 3])
        self.assertEqual(one_of((10, 9, 20, 3), "nearest", 5), [2, 3])
        self.assertEqual(one_of((10, 8, 20, 10), "nearest", 3), [1, 1])
        self.assertEqual(one_of((12, 8, 5, 7), "nearest", 6), [2, 1])

    def test_far_off_counts_before_and_behind(self):
        self.assertEqual(one_of((10, 10, 20, 1), "nearest", 4), [4, 0])
        self.assertEqual(one_of((10, 10, 20, 1), "nearest", 5), [5, 0])
        self.assertEqual(one_of((10, 10, 20, 1), "nearest", 6), [4, 0])

    def test_the_first_of_several_equally_far_off(self):
        self.assertEqual(one_of((10, 9, 20, 10), "nearest", 0), [0, 0])
        self.assertEqual(one_of((10, 5, 20, 10), "nearest", 2), [2, 0])
        self.assertEqual(one_of((10, 4, 20, 3), "nearest", 5), [1, 1])
        self.assertEqual(one_of((5, 5, 20, 60), "nearest", 3), [2, 0])

    def test_marks_past_the_scales_end_do_not_count(self):
        self.assertEqual(one_of((10, 9, 1, 10), "nearest", 2), [2, 0])
        self.assertEqual(one_of((10, 9, 1, 1), "nearest", 1), [0, 1])
        self.assertEqual(one_of((10, 2, 2, 10), "nearest", 17), [1, 1])

    def test_x_as_much_as_the_scale_is_long_and_one_more(self):
        self.assertEqual(one_of((10, 9, 20, 10), "nearest", 200), [0, 0])
        self.assertEqual(one_of((10, 9, 20, 10), "nearest", 201), [-1])
        self.assertEqual(one_of((1, 1, 1, 1), "nearest", 2), [-1])
        self.assertEqual(one_of((60, 60, 60, 60), "nearest", 3600), [0, 0])
        self.assertEqual(one_of((60, 60, 60, 60), "nearest", 5000), [-1])

    def test_none_where_the_marks_along_the_scale_are_worn_off(self):
        told = ask_worn((10, 9, 20, 10), [0], ("nearest", 200), ("nearest", 192), ("nearest", 191), ("nearest", 0))
        self.assertEqual(told, [[-6], [-6], [0, 1], [0, 10]])

    def test_none_where_all_are_worn_off(self):
        self.assertEqual(ask_worn((10, 9, 20, 1), [1, 0], ("nearest", 0), ("nearest", 200)), [[-6], [-6]])
        self.assertEqual(one_worn((10, 9, 20, 10), [5, 0, 10, 9, 1, 8, 2, 7, 3, 6, 4], "nearest", 5), [-6])

    def test_the_next_best_where_the_nearest_is_worn_off(self):
        self.assertEqual(one_worn((10, 9, 20, 10), [3], "nearest", 3), [1, 2])
        self.assertEqual(one_worn((10, 9, 20, 10), [3, 2], "nearest", 3), [1, 4])

    def test_where_several_are_due_the_first_told_counts(self):
        self.assertEqual(one_worn((10, 9, 20, 1), [1, 0], "nearest", 201), [-1])

    def test_every_x_of_some_verniers(self):
        for vernier, worn in worn_verniers():
            every = range(vernier[0] * vernier[2] + 1)
            told = ask_worn(vernier, worn, *[("nearest", x) for x in every])
            self.assertEqual(told, [nearest_by_looking(vernier, worn, x) for x in every], (vernier, worn))


class MarksWornOff(unittest.TestCase):
    def test_they_count_for_fine_slides_and_step_all_the_same(self):
        whole = ask_of((10, 9, 20, 9), ("fine",), ("slides", 1), ("step",))
        worn = ask_worn((10, 9, 20, 9), [0, 5, 9], ("fine",), ("slides", 1), ("step",))
        self.assertEqual(worn, whole)
        self.assertEqual(worn, [[1, 10, 1], [8, 1, 3, 7, 9, 11, 13, 17, 19], [1]])


if __name__ == "__main__":
    unittest.main()
