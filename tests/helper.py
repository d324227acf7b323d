"""What the tests share: calls by name, and answers taken apart again."""

import functools

from slidingscale.vernier import answers

NUMBERS = {
    "begin": 0, "fine": 1, "meets": 2, "out": 3, "nearest": 4, "slides": 5, "step": 6,
    "wear": 7, "readable": 8, "zero": 9, "slide": 10, "read": 11, "look": 12,
}
VERNIERS = [
    (10, 9, 20, 10), (10, 11, 20, 10), (12, 8, 5, 7), (8, 12, 5, 7), (1, 1, 1, 1), (1, 1, 60, 60), (7, 21, 6, 9),
    (60, 1, 1, 60), (1, 60, 60, 60), (60, 59, 3, 60), (5, 5, 4, 12), (6, 10, 9, 3), (9, 2, 1, 1), (13, 40, 2, 2),
]
WORN = [[], [0], [1], [1, 0], [5, 2, 0, 4, 1, 3]]


def flat(*calls):
    """One list from calls like ("meets", 5)."""
    together = []
    for call in calls:
        together.append(NUMBERS[call[0]])
        together.extend(call[1:])
    return together


def taken_apart(given):
    """The answers, a list each."""
    apart = []
    place = 0
    while place < len(given):
        behind = place + 1 + given[place]
        if behind > len(given):
            raise AssertionError("an answer is shorter than its count says")
        apart.append(given[place + 1:behind])
        place = behind
    return apart


def ask(*calls):
    """What a new line answers, a list for each call."""
    apart = taken_apart(answers(flat(*calls)))
    if len(apart) != len(calls):
        raise AssertionError("not one answer for each call")
    return apart


def ask_of(vernier, *calls):
    """What the calls answer behind the begin of this vernier, given as (a, b, m, n)."""
    whole = ask(("begin",) + tuple(vernier), *calls)
    if whole[0] != [0]:
        raise AssertionError("begin was refused")
    return whole[1:]


def one_of(vernier, *call):
    """What one call answers behind the begin of this vernier."""
    return ask_of(vernier, call)[0]


def ask_worn(vernier, worn, *calls):
    """What the calls answer behind the begin of this vernier and the wearing off of these marks, in this order.

    As many lines as it takes, since one has at most 60 calls: for calls that don't go by one another.
    """
    before = [("wear", j) for j in worn]
    room = 59 - len(before)
    told = []
    for start in range(0, len(calls), room):
        whole = ask_of(vernier, *before, *calls[start:start + room])
        if whole[:len(before)] != [[many] for many in range(1, len(before) + 1)]:
            raise AssertionError("wear was refused")
        told.extend(whole[len(before):])
    return told


def one_worn(vernier, worn, *call):
    """What one call answers where these marks are worn off."""
    return ask_worn(vernier, worn, call)[0]


def worn_verniers():
    """Each of the verniers with each of the ways to wear marks off that its slide has."""
    return [(vernier, worn) for vernier in VERNIERS for worn in WORN if max(worn, default=0) <= vernier[3]]


def meets_by_looking(vernier, worn, x):
    """By putting every mark of the one beside every mark of the other."""
    a, b, m, n = vernier
    pairs = [(i, j) for j in range(n + 1) for i in range(m + 1) if j not in worn and i * a == x + j * b]
    return [len(pairs)] + [mark for pair in pairs for mark in pair]


def nearest_by_looking(vernier, worn, x):
    """By measuring to multiples of a on both sides, beyond the scale's end too."""
    a, b, m, n = vernier
    best = [-6]
    for j in range(n + 1):
        place = x + j * b
        if j not in worn and place <= m * a:
            off = min(abs(place - i * a) for i in range(m + 2))
            if best == [-6] or off < best[0]:
                best = [off, j]
    return best


def readable_by_looking(vernier, worn, i):
    """By putting every mark of the slide on every mark of the scale, and keeping what lies between the two."""
    a, b, m, n = vernier
    places = {k * a - j * b for k in range(m + 1) for j in range(n + 1) if j not in worn}
    between = sorted(x for x in places if i * a <= x < (i + 1) * a)
    return [len(between)] + between


def meeting_x(a, b):
    """From 0 up to a, each x at which a mark of an endless slide meets the scale."""
    return [x for x in range(a + 1) if any((x + j * b) % a == 0 for j in range(a))]


@functools.cache
def told_by_looking(a, b):
    """How fine it reads and the turns, by going through the marks as the words tell them."""
    places = meeting_x(a, b)
    met = dict.fromkeys(places[:-1], 0)
    turns = 0
    while any(often == 0 for often in met.values()):
        for x in met:
            met[x] += (x + turns * b) % a == 0
        turns += 1
    assert all(often == 1 for often in met.values())
    return places[1] - places[0], turns


def step_by_looking(a, b):
    """From the mark that meets to the one that does instead, from each x on; it is one number for all."""
    fine, turns = told_by_looking(a, b)
    steps = set()
    for x in range(0, 2 * a, fine):
        here = [j for j in range(turns) if (x + j * b) % a == 0]
        then = [j for j in range(turns) if (x + fine + j * b) % a == 0]
        steps.add((then[0] - here[0]) % turns)
    assert len(steps) == 1
    return steps.pop()
