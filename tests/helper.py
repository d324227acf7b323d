"""What the tests share: calls by name, and answers taken apart again."""

from slidingscale.vernier import Line, answer_to, answers

NUMBERS = {
    "begin": 0, "fine": 1, "meets": 2, "out": 3, "nearest": 4, "slides": 5, "step": 6,
    "wear": 7, "readable": 8, "zero": 9, "slide": 10, "read": 11, "look": 12,
}


def flat(*calls):
    """One list from calls like ("meets", 5)."""
    together = []
    for call in calls:
        together.append(NUMBERS[call[0]])
        together.extend(call[1:])
    return together


def taken_apart(given):
    """The answers, a list each."""
    apart = []
    place = 0
    while place < len(given):
        behind = place + 1 + given[place]
        if behind > len(given):
            raise AssertionError("an answer is shorter than its count says")
        apart.append(given[place + 1:behind])
        place = behind
    return apart


def ask(*calls):
    """What a new line answers, a list for each call."""
    apart = taken_apart(answers(flat(*calls)))
    if len(apart) != len(calls):
        raise AssertionError("not one answer for each call")
    return apart


def ask_of(vernier, *calls):
    """What the calls answer behind the begin of this vernier, given as (a, b, m, n)."""
    whole = ask(("begin",) + tuple(vernier), *calls)
    if whole[0] != [0]:
        raise AssertionError("begin was refused")
    return whole[1:]


def one_of(vernier, *call):
    """What one call answers behind the begin of this vernier."""
    return ask_of(vernier, call)[0]


def worn_line(vernier, worn):
    """A line with this vernier, on whose slide these marks are worn off."""
    line = Line()
    if answer_to(line, NUMBERS["begin"], list(vernier)) != [0]:
        raise AssertionError("begin was refused")
    line.vernier.worn.extend(worn)
    return line


def one_on(line, *call):
    """What one call answers on a line that is there already."""
    return answer_to(line, NUMBERS[call[0]], list(call[1:]))
