"""Promises 3, 4 and 5: which marks meet, how far out that is, and which mark is nearest."""

import unittest

from helper import ask_of, one_of, one_on, worn_line

VERNIERS = [
    (10, 9, 20, 10), (10, 11, 20, 10), (12, 8, 5, 7), (8, 12, 5, 7), (1, 1, 1, 1), (1, 1, 60, 60), (7, 21, 6, 9),
    (60, 1, 1, 60), (1, 60, 60, 60), (60, 59, 3, 60), (5, 5, 4, 12), (6, 10, 9, 3), (9, 2, 1, 1), (13, 40, 2, 2),
]
WORN = [[], [0], [1], [1, 0], [0, 1, 2, 3, 4, 5]]


def meets_by_looking(vernier, worn, x):
    """By putting every mark of the one beside every mark of the other."""
    a, b, m, n = vernier
    pairs = [(i, j) for j in range(n + 1) for i in range(m + 1) if j not in worn and i * a == x + j * b]
    return [len(pairs)] + [mark for pair in pairs for mark in pair]


def nearest_by_looking(vernier, worn, x):
    """By measuring to multiples of a on both sides, beyond the scale's end too."""
    a, b, m, n = vernier
    best = [-6]
    for j in range(n + 1):
        place = x + j * b
        if j not in worn and place <= m * a:
            off = min(abs(place - i * a) for i in range(m + 2))
            if best == [-6] or off < best[0]:
                best = [off, j]
    return best


class Meets(unittest.TestCase):
    def test_ordinary_ones(self):
        self.assertEqual(one_of((10, 9, 20, 10), "meets", 0), [2, 0, 0, 9, 10])
        self.assertEqual(one_of((10, 9, 20, 10), "meets", 3), [1, 3, 3])
        self.assertEqual(one_of((10, 9, 20, 10), "meets", 37), [1, 10, 7])
        self.assertEqual(one_of((10, 11, 20, 10), "meets", 1), [1, 10, 9])

    def test_none(self):
        self.assertEqual(one_of((10, 8, 20, 10), "meets", 1), [0])
        self.assertEqual(one_of((10, 9, 20, 3), "meets", 5), [0])

    def test_several_by_the_slides_mark(self):
        self.assertEqual(one_of((12, 8, 5, 7), "meets", 4), [3, 1, 1, 3, 4, 5, 7])
        self.assertEqual(one_of((5, 5, 3, 9), "meets", 0), [4, 0, 0, 1, 1, 2, 2, 3, 3])

    def test_the_scales_last_mark_and_none_behind_it(self):
        self.assertEqual(one_of((10, 10, 3, 1), "meets", 20), [2, 2, 0, 3, 1])
        self.assertEqual(one_of((10, 10, 3, 2), "meets", 20), [2, 2, 0, 3, 1])
        self.assertEqual(one_of((10, 9, 1, 10), "meets", 2), [0])

    def test_the_slides_last_mark_and_none_behind_it(self):
        self.assertEqual(one_of((10, 9, 20, 4), "meets", 4), [1, 4, 4])
        self.assertEqual(one_of((10, 9, 20, 3), "meets", 4), [0])

    def test_x_as_much_as_the_scale_is_long_and_one_more(self):
        self.assertEqual(one_of((10, 9, 20, 10), "meets", 200), [1, 20, 0])
        self.assertEqual(one_of((10, 9, 20, 10), "meets", 201), [-1])
        self.assertEqual(one_of((1, 1, 1, 1), "meets", 1), [1, 1, 0])
        self.assertEqual(one_of((1, 1, 1, 1), "meets", 2), [-1])
        self.assertEqual(one_of((60, 60, 60, 60), "meets", 3600), [1, 60, 0])
        self.assertEqual(one_of((60, 60, 60, 60), "meets", 3601), [-1])
        self.assertEqual(one_of((60, 60, 60, 60), "meets", 5000), [-1])

    def test_marks_worn_off_are_left_out(self):
        line = worn_line((12, 8, 5, 7), [4])
        self.assertEqual(one_on(line, "meets", 4), [2, 1, 1, 5, 7])
        line = worn_line((10, 9, 20, 10), [3])
        self.assertEqual(one_on(line, "meets", 3), [0])
        self.assertEqual(one_on(line, "meets", 201), [-1])

    def test_every_x_of_some_verniers(self):
        for vernier in VERNIERS:
            for worn in WORN:
                line = worn_line(vernier, worn)
                for x in range(vernier[0] * vernier[2] + 1):
                    due = meets_by_looking(vernier, worn, x)
                    self.assertEqual(one_on(line, "meets", x), due, (vernier, worn, x))


class Out(unittest.TestCase):
    def test_ordinary_ones(self):
        self.assertEqual(one_of((10, 9, 20, 10), "out", 7, 4), [34])
        self.assertEqual(one_of((10, 9, 20, 10), "out", 3, 3), [3])
        self.assertEqual(one_of((7, 12, 30, 5), "out", 30, 5), [150])

    def test_first_marks_last_marks_and_one_past(self):
        vernier = (10, 9, 20, 10)
        self.assertEqual(one_of(vernier, "out", 0, 0), [0])
        self.assertEqual(one_of(vernier, "out", 20, 0), [200])
        self.assertEqual(one_of(vernier, "out", 20, 10), [110])
        self.assertEqual(one_of(vernier, "out", 21, 0), [-1])
        self.assertEqual(one_of(vernier, "out", 20, 11), [-1])
        self.assertEqual(one_of(vernier, "out", 99, 99), [-1])
        self.assertEqual(one_of((60, 60, 60, 60), "out", 60, 60), [0])
        self.assertEqual(one_of((60, 1, 60, 60), "out", 60, 0), [3600])

    def test_0_is_out_and_less_is_refused(self):
        self.assertEqual(one_of((10, 9, 20, 10), "out", 9, 10), [0])
        self.assertEqual(one_of((10, 9, 20, 10), "out", 8, 9), [-6])
        self.assertEqual(one_of((10, 9, 20, 10), "out", 0, 1), [-6])
        self.assertEqual(one_of((10, 11, 20, 10), "out", 1, 1), [-6])
        self.assertEqual(one_of((1, 2, 1, 1), "out", 1, 1), [-6])

    def test_a_mark_worn_off(self):
        line = worn_line((10, 9, 20, 10), [4, 0])
        self.assertEqual(one_on(line, "out", 7, 4), [-3])
        self.assertEqual(one_on(line, "out", 7, 0), [-3])
        self.assertEqual(one_on(line, "out", 4, 3), [13])

    def test_where_several_are_due_the_first_told_counts(self):
        line = worn_line((10, 9, 20, 10), [4])
        self.assertEqual(one_on(line, "out", 21, 4), [-1])
        self.assertEqual(one_on(line, "out", 0, 11), [-1])
        self.assertEqual(one_on(line, "out", 0, 4), [-3])

    def test_it_is_where_meets_shows_the_pair(self):
        for i, j in [(0, 0), (5, 3), (20, 10), (9, 10)]:
            x = one_of((10, 9, 20, 10), "out", i, j)[0]
            told = one_of((10, 9, 20, 10), "meets", x)
            self.assertIn((i, j), list(zip(told[1::2], told[2::2])))


class Nearest(unittest.TestCase):
    def test_ordinary_ones(self):
        self.assertEqual(one_of((10, 9, 20, 10), "nearest", 3), [0, 3])
        self.assertEqual(one_of((10, 9, 20, 3), "nearest", 5), [2, 3])
        self.assertEqual(one_of((10, 8, 20, 10), "nearest", 3), [1, 1])
        self.assertEqual(one_of((12, 8, 5, 7), "nearest", 6), [2, 1])

    def test_far_off_counts_before_and_behind(self):
        self.assertEqual(one_of((10, 10, 20, 1), "nearest", 4), [4, 0])
        self.assertEqual(one_of((10, 10, 20, 1), "nearest", 5), [5, 0])
        self.assertEqual(one_of((10, 10, 20, 1), "nearest", 6), [4, 0])

    def test_the_first_of_several_equally_far_off(self):
        self.assertEqual(one_of((10, 9, 20, 10), "nearest", 0), [0, 0])
        self.assertEqual(one_of((10, 5, 20, 10), "nearest", 2), [2, 0])
        self.assertEqual(one_of((10, 4, 20, 3), "nearest", 5), [1, 1])
        self.assertEqual(one_of((5, 5, 20, 60), "nearest", 3), [2, 0])

    def test_marks_past_the_scales_end_do_not_count(self):
        self.assertEqual(one_of((10, 9, 1, 10), "nearest", 2), [2, 0])
        self.assertEqual(one_of((10, 9, 1, 1), "nearest", 1), [0, 1])
        self.assertEqual(one_of((10, 2, 2, 10), "nearest", 17), [1, 1])

    def test_x_as_much_as_the_scale_is_long_and_one_more(self):
        self.assertEqual(one_of((10, 9, 20, 10), "nearest", 200), [0, 0])
        self.assertEqual(one_of((10, 9, 20, 10), "nearest", 201), [-1])
        self.assertEqual(one_of((1, 1, 1, 1), "nearest", 2), [-1])
        self.assertEqual(one_of((60, 60, 60, 60), "nearest", 3600), [0, 0])
        self.assertEqual(one_of((60, 60, 60, 60), "nearest", 5000), [-1])

    def test_none_where_the_marks_along_the_scale_are_worn_off(self):
        line = worn_line((10, 9, 20, 10), [0])
        self.assertEqual(one_on(line, "nearest", 200), [-6])
        self.assertEqual(one_on(line, "nearest", 192), [-6])
        self.assertEqual(one_on(line, "nearest", 191), [0, 1])
        self.assertEqual(one_on(line, "nearest", 0), [0, 10])
        line = worn_line((10, 9, 20, 1), [1, 0])
        self.assertEqual(one_on(line, "nearest", 0), [-6])

    def test_where_several_are_due_the_first_told_counts(self):
        line = worn_line((10, 9, 20, 1), [1, 0])
        self.assertEqual(one_on(line, "nearest", 201), [-1])

    def test_every_x_of_some_verniers(self):
        for vernier in VERNIERS:
            for worn in WORN:
                line = worn_line(vernier, worn)
                for x in range(vernier[0] * vernier[2] + 1):
                    due = nearest_by_looking(vernier, worn, x)
                    self.assertEqual(one_on(line, "nearest", x), due, (vernier, worn, x))


class MarksWornOff(unittest.TestCase):
    def test_they_count_for_fine_slides_and_step_all_the_same(self):
        whole = ask_of((10, 9, 20, 9), ("fine",), ("slides", 1), ("step",))
        line = worn_line((10, 9, 20, 9), [0, 5, 9])
        worn = [one_on(line, "fine"), one_on(line, "slides", 1), one_on(line, "step")]
        self.assertEqual(worn, whole)


if __name__ == "__main__":
    unittest.main()
