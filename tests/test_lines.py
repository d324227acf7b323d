"""Whole lines of all calls mixed, against a vernier that goes through its marks as the words tell them."""

import unittest

from helper import (
    NUMBERS, ask, meets_by_looking, nearest_by_looking, readable_by_looking, step_by_looking, told_by_looking,
)

# Each call with each refusal that the document tells of it, and 0 where it was none.
EVERY_ANSWER = {
    (name, told)
    for name, refusals in [
        ("begin", (-1,)), ("fine", (-9,)), ("meets", (-9, -1)), ("out", (-9, -1, -3, -6)), ("nearest", (-9, -1, -6)),
        ("slides", (-9, -1)), ("step", (-9,)), ("wear", (-9, -1, -3)), ("readable", (-9, -1)), ("zero", (-9, -1)),
        ("slide", (-9, -1)), ("read", (-9, -6)), ("look", (-9,)),
    ]
    for told in (0, *refusals)
}


class Mixed:
    """Numbers without a plain order, the same ones in each run and under each Python."""

    def __init__(self):
        self.last = 20

    def between(self, low, high):
        self.last = (self.last * 6364136223846793005 + 1442695040888963407) % 2 ** 64
        return low + (self.last >> 33) % (high - low + 1)

    def one_of(self, choices):
        return choices[self.between(0, len(choices) - 1)]


class Looked:
    """What is kept, and a method for each call."""

    def __init__(self):
        self.sizes = None

    def answer(self, name, *handed):
        if name != "begin" and self.sizes is None:
            return [-9]
        return getattr(self, name)(*handed)

    def begin(self, *sizes):
        if not all(size in range(1, 61) for size in sizes):
            return [-1]
        self.sizes, self.gone, self.nothing, self.moved = sizes, (), 0, 0
        return [0]

    def fine(self):
        fine, turns = told_by_looking(*self.sizes[:2])
        return [fine, turns, int(turns in range(self.sizes[3] + 2))]

    def beyond(self, x):
        return x not in range(self.sizes[0] * self.sizes[2] + 1)

    def meets(self, x):
        return [-1] if self.beyond(x) else meets_by_looking(self.sizes, self.gone, x)

    def out(self, i, j):
        a, b, m, n = self.sizes
        if i not in range(m + 1) or j not in range(n + 1):
            return [-1]
        if j in self.gone:
            return [-3]
        return [a * i - b * j] if a * i >= b * j else [-6]

    def nearest(self, x):
        return [-1] if self.beyond(x) else nearest_by_looking(self.sizes, self.gone, x)

    def slides(self, fine):
        a, n = self.sizes[0], self.sizes[3]
        told = {b: told_by_looking(a, b) for b in range(1, 2 * a)}
        fit = [b for b in told if told[b][0] == fine and told[b][1] <= n + 1]
        return [len(fit), *fit] if fine else [-1]

    def step(self):
        return [step_by_looking(*self.sizes[:2])]

    def wear(self, j):
        if j not in range(self.sizes[3] + 1):
            return [-1]
        if j in self.gone:
            return [-3]
        self.gone += (j,)
        return [len(self.gone)]

    def readable(self, i):
        return readable_by_looking(self.sizes, self.gone, i) if i in range(self.sizes[2]) else [-1]

    def zero(self, z):
        if abs(z) > 60:
            return [-1]
        self.nothing = z
        return [0]

    def slide(self, x):
        if self.beyond(x):
            return [-1]
        self.moved = x
        return meets_by_looking(self.sizes, self.gone, x)[:1]

    def read(self):
        if meets_by_looking(self.sizes, self.gone, self.moved) == [0]:
            return [-6]
        return [0, self.moved - self.nothing]

    def look(self):
        return [*self.sizes, self.nothing, self.moved, len(self.gone), *self.gone]


def some_begin(mixed, most):
    return ("begin", *[mixed.between(1, most) for _ in range(4)])


def some_call(mixed, most):
    """One call; most bounds sizes and marks, so that small verniers are handed calls that fit them."""
    name = mixed.one_of(list(NUMBERS) + ["wear", "wear", "slide", "read", "look"])
    if name == "begin":
        return mixed.one_of([some_begin(mixed, most), ("begin", *[mixed.one_of([0, 1, 60, 61, 99]) for _ in range(4)])])
    if name in ("meets", "nearest", "slide"):
        return name, mixed.between(0, mixed.one_of([most, most * most, 5000]))
    if name in ("wear", "readable", "slides"):
        return name, mixed.between(0, most + 1)
    if name == "out":
        return name, mixed.between(0, most + 1), mixed.between(0, most + 1)
    if name == "zero":
        return name, mixed.one_of([-99, -61, -60, -1, 0, 1, 60, 61, 99, mixed.between(-99, 99)])
    return (name,)


class Lines(unittest.TestCase):
    def test_all_calls_mixed(self):
        mixed = Mixed()
        answered = set()
        for number in range(240):
            most = (3, 6, 12, 60)[number % 4]
            calls = [some_call(mixed, most) for _ in range(59)]
            calls.insert(mixed.between(0, 3), some_begin(mixed, most))
            looked = Looked()
            told = ask(*calls)
            for place, call in enumerate(calls):
                self.assertEqual(told[place], looked.answer(*call), calls[:place + 1])
                answered.add((call[0], min(told[place][0], 0)))
        self.assertEqual(answered, EVERY_ANSWER)


if __name__ == "__main__":
    unittest.main()
