"""Promises 2, 6 and 7: how fine two scales read, which slides would, and which mark is next."""

import unittest

from helper import ask_of, one_of, step_by_looking, told_by_looking


class Fine(unittest.TestCase):
    def test_ordinary_ones(self):
        self.assertEqual(one_of((10, 9, 20, 10), "fine"), [1, 10, 1])
        self.assertEqual(one_of((10, 11, 20, 10), "fine"), [1, 10, 1])
        self.assertEqual(one_of((12, 8, 20, 10), "fine"), [4, 3, 1])
        self.assertEqual(one_of((8, 12, 20, 10), "fine"), [4, 2, 1])
        self.assertEqual(one_of((10, 19, 20, 10), "fine"), [1, 10, 1])

    def test_just_marks_enough_and_one_too_few(self):
        self.assertEqual(one_of((10, 9, 20, 9), "fine"), [1, 10, 1])
        self.assertEqual(one_of((10, 9, 20, 8), "fine"), [1, 10, 0])
        self.assertEqual(one_of((12, 8, 20, 2), "fine"), [4, 3, 1])
        self.assertEqual(one_of((12, 8, 20, 1), "fine"), [4, 3, 0])
        self.assertEqual(one_of((60, 59, 1, 59), "fine"), [1, 60, 1])
        self.assertEqual(one_of((60, 59, 1, 58), "fine"), [1, 60, 0])

    def test_one_turn_where_every_mark_meets(self):
        self.assertEqual(one_of((1, 1, 1, 1), "fine"), [1, 1, 1])
        self.assertEqual(one_of((7, 21, 1, 1), "fine"), [7, 1, 1])
        self.assertEqual(one_of((60, 60, 60, 60), "fine"), [60, 1, 1])
        self.assertEqual(one_of((1, 60, 60, 60), "fine"), [1, 1, 1])
        self.assertEqual(one_of((60, 1, 60, 60), "fine"), [1, 60, 1])

    def test_the_scales_length_does_not_count(self):
        self.assertEqual(one_of((10, 9, 1, 10), "fine"), [1, 10, 1])
        self.assertEqual(one_of((10, 9, 60, 10), "fine"), [1, 10, 1])

    def test_every_pair_of_distances(self):
        for a in range(1, 61):
            for b in range(1, 61):
                fine, turns = told_by_looking(a, b)
                n = (a * b) % 60 + 1
                due = [fine, turns, 1 if n + 1 >= turns else 0]
                self.assertEqual(one_of((a, b, 5, n), "fine"), due, (a, b, n))


class Slides(unittest.TestCase):
    def test_ordinary_ones(self):
        self.assertEqual(one_of((10, 9, 20, 10), "slides", 1), [8, 1, 3, 7, 9, 11, 13, 17, 19])
        self.assertEqual(one_of((10, 9, 20, 10), "slides", 2), [8, 2, 4, 6, 8, 12, 14, 16, 18])
        self.assertEqual(one_of((10, 9, 20, 10), "slides", 5), [2, 5, 15])

    def test_from_1_up_to_less_than_twice_the_scales_distance(self):
        self.assertEqual(one_of((1, 1, 1, 1), "slides", 1), [1, 1])
        self.assertEqual(one_of((2, 1, 1, 1), "slides", 1), [2, 1, 3])
        self.assertEqual(one_of((2, 1, 1, 1), "slides", 2), [1, 2])
        self.assertEqual(one_of((60, 1, 1, 60), "slides", 60), [1, 60])
        told = one_of((60, 1, 1, 60), "slides", 1)
        self.assertEqual(told[0], len(told) - 1)
        self.assertEqual((told[1], told[-1]), (1, 119))

    def test_just_marks_enough_and_one_too_few(self):
        self.assertEqual(one_of((10, 9, 20, 9), "slides", 1), [8, 1, 3, 7, 9, 11, 13, 17, 19])
        self.assertEqual(one_of((10, 9, 20, 8), "slides", 1), [0])
        self.assertEqual(one_of((12, 9, 20, 2), "slides", 4), [4, 4, 8, 16, 20])
        self.assertEqual(one_of((12, 9, 20, 1), "slides", 4), [0])

    def test_none_reads_so_fine(self):
        self.assertEqual(one_of((10, 9, 20, 10), "slides", 3), [0])
        self.assertEqual(one_of((10, 9, 20, 10), "slides", 20), [0])
        self.assertEqual(one_of((10, 9, 20, 10), "slides", 99), [0])

    def test_refuses_0(self):
        self.assertEqual(one_of((10, 9, 20, 10), "slides", 0), [-1])
        self.assertEqual(one_of((1, 1, 1, 1), "slides", 0), [-1])

    def test_the_slides_own_distance_does_not_count(self):
        for b in range(1, 61):
            self.assertEqual(one_of((10, b, 20, 10), "slides", 5), [2, 5, 15], b)

    def test_every_fineness_of_some_scales(self):
        for a in (1, 2, 7, 12, 30, 36, 59, 60):
            told = [told_by_looking(a, b) for b in range(1, 2 * a)]
            for n in (1, 2, 5, 11, 29, 58, 59, 60):
                for fine in range(1, 100):
                    due = [b for b, (reads, turns) in enumerate(told, 1) if reads == fine and turns <= n + 1]
                    self.assertEqual(one_of((a, 1, 1, n), "slides", fine), [len(due)] + due, (a, n, fine))


class Step(unittest.TestCase):
    def test_ordinary_ones(self):
        self.assertEqual(one_of((10, 9, 20, 10), "step"), [1])
        self.assertEqual(one_of((10, 11, 20, 10), "step"), [9])
        self.assertEqual(one_of((10, 7, 20, 10), "step"), [7])
        self.assertEqual(one_of((10, 3, 20, 10), "step"), [3])
        self.assertEqual(one_of((12, 8, 20, 10), "step"), [1])
        self.assertEqual(one_of((12, 16, 20, 10), "step"), [2])

    def test_one_turn_only(self):
        self.assertEqual(one_of((1, 1, 1, 1), "step"), [0])
        self.assertEqual(one_of((7, 21, 20, 10), "step"), [0])
        self.assertEqual(one_of((60, 60, 1, 1), "step"), [0])
        self.assertEqual(one_of((1, 60, 1, 1), "step"), [0])

    def test_marks_that_the_slide_lacks_are_counted_as_well(self):
        self.assertEqual(one_of((10, 11, 1, 1), "step"), [9])
        self.assertEqual(one_of((60, 1, 1, 1), "step"), [59])

    def test_every_pair_of_distances(self):
        for a in range(1, 61):
            for b in range(a % 2 + 1, 61, 2):
                self.assertEqual(one_of((a, b, 5, 5), "step"), [step_by_looking(a, b)], (a, b))

    def test_it_is_what_meets_shows(self):
        told = ask_of((10, 7, 60, 9), ("meets", 100), ("meets", 101), ("meets", 102), ("step",))
        self.assertEqual([answer[2] for answer in told[:3]], [0, 7, 4])
        self.assertEqual(told[3], [7])


if __name__ == "__main__":
    unittest.main()
