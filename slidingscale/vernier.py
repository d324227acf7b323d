"""The calls on one vernier: what each is handed, what it refuses and what it answers."""

from slidingscale.scales import Vernier
from slidingscale.scales import far_off
from slidingscale.scales import fineness
from slidingscale.scales import fits
from slidingscale.scales import has_marks_for
from slidingscale.scales import marks_along_scale
from slidingscale.scales import marks_further
from slidingscale.scales import meeting_marks
from slidingscale.scales import place_of
from slidingscale.scales import places_read
from slidingscale.scales import scale_length
from slidingscale.scales import turns_needed

NOT_ALLOWED = -1
WORN_OFF = -3
NOT_THERE = -6
NO_VERNIER = -9

MOST = 60

BEGIN = 0

# By a call's number, how many numbers are handed over with it.
HANDED_OVER = (4, 0, 1, 2, 1, 1, 0, 1, 1, 1, 1, 0, 0)


class Line:
    """One list of calls; there is no vernier at its beginning."""

    def __init__(self):
        self.vernier = None


def begin(line, handed):
    for number in handed:
        if number < 1 or number > MOST:
            return [NOT_ALLOWED]
    line.vernier = Vernier(handed[0], handed[1], handed[2], handed[3])
    return [0]


def counted(found):
    """How many, then they."""
    return [len(found)] + found


def fine(vernier, handed):
    turns = turns_needed(vernier.a, vernier.b)
    enough = 1 if has_marks_for(vernier, turns) else 0
    return [fineness(vernier.a, vernier.b), turns, enough]


def meets(vernier, handed):
    x = handed[0]
    if x > scale_length(vernier):
        return [NOT_ALLOWED]
    marks = meeting_marks(vernier, x)
    answer = [len(marks)]
    for j in marks:
        answer.append(place_of(vernier, x, j) // vernier.a)
        answer.append(j)
    return answer


def out(vernier, handed):
    i = handed[0]
    j = handed[1]
    if i > vernier.m or j > vernier.n:
        return [NOT_ALLOWED]
    if j in vernier.worn:
        return [WORN_OFF]
    x = i * vernier.a - j * vernier.b
    if x < 0:
        return [NOT_THERE]
    return [x]


def nearest(vernier, handed):
    x = handed[0]
    if x > scale_length(vernier):
        return [NOT_ALLOWED]
    marks = marks_along_scale(vernier, x)
    if len(marks) == 0:
        return [NOT_THERE]
    # Among pairs the least is the first mark of those that are the least far off.
    return list(min([(far_off(vernier, x, j), j) for j in marks]))


def slides(vernier, handed):
    wanted = handed[0]
    if wanted == 0:
        return [NOT_ALLOWED]
    return counted([b for b in range(1, 2 * vernier.a) if fits(vernier, b, wanted)])


def step(vernier, handed):
    return [marks_further(vernier.a, vernier.b)]


def wear(vernier, handed):
    j = handed[0]
    if j > vernier.n:
        return [NOT_ALLOWED]
    if j in vernier.worn:
        return [WORN_OFF]
    vernier.worn.append(j)
    return [len(vernier.worn)]


def readable(vernier, handed):
    i = handed[0]
    # The scale's last mark is refused too: there is none behind it.
    if i >= vernier.m:
        return [NOT_ALLOWED]
    return counted(places_read(vernier, i))


def zero(vernier, handed):
    z = handed[0]
    if z < -MOST or z > MOST:
        return [NOT_ALLOWED]
    vernier.zero = z
    return [0]


def slide(vernier, handed):
    x = handed[0]
    if x > scale_length(vernier):
        return [NOT_ALLOWED]
    vernier.out_by = x
    return [len(meeting_marks(vernier, x))]


def read(vernier, handed):
    if len(meeting_marks(vernier, vernier.out_by)) == 0:
        return [NOT_THERE]
    # What is read may be below 0; the 0 ahead of it tells it from a refusal.
    return [0, vernier.out_by - vernier.zero]


def look(vernier, handed):
    sizes = [vernier.a, vernier.b, vernier.m, vernier.n]
    return sizes + [vernier.zero, vernier.out_by] + counted(vernier.worn)


# By a call's number, what answers it where there is a vernier.
ANSWERED_BY = {
    1: fine, 2: meets, 3: out, 4: nearest, 5: slides, 6: step, 7: wear, 8: readable, 9: zero, 10: slide, 11: read,
    12: look,
}


def answer_to(line, number, handed):
    """The numbers that one call answers."""
    if number == BEGIN:
        return begin(line, handed)
    if line.vernier is None:
        return [NO_VERNIER]
    return ANSWERED_BY[number](line.vernier, handed)


def answers(calls):
    """For each call, in order, how many numbers it answers, then these."""
    line = Line()
    given = []
    place = 0
    while place < len(calls):
        number = calls[place]
        behind = place + 1 + HANDED_OVER[number]
        answer = answer_to(line, number, calls[place + 1:behind])
        given.append(len(answer))
        given.extend(answer)
        place = behind
    return given
