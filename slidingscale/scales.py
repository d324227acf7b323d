"""The scale and its slide, in whole parts, and what their marks tell."""


class Vernier:
    """A scale with m marks every a parts behind its mark 0, and a slide with n every b parts."""

    def __init__(self, a, b, m, n):
        self.a = a
        self.b = b
        self.m = m
        self.n = n
        self.zero = 0
        self.out_by = 0
        # A list, because the order in which the marks were worn off counts.
        self.worn = []


def fineness(a, b):
    """How fine marks every a parts and marks every b parts read together."""
    # x + j b can be a multiple of a just where x is one of the greatest common divisor.
    while b > 0:
        rest = a % b
        a = b
        b = rest
    return a


def turns_needed(a, b):
    """How many neighbouring marks of the slide meet the scale once each, before the first does again."""
    return a // fineness(a, b)


def has_marks_for(vernier, turns):
    """Whether the slide's mark 0 and its n others are so many."""
    return turns <= vernier.n + 1


def scale_length(vernier):
    return vernier.a * vernier.m


def place_of(vernier, x, j):
    """Where the slide's mark j lies, when the slide is out by x."""
    return x + j * vernier.b


def far_off(vernier, x, j):
    """How far the slide's mark j lies from the nearest multiple of a."""
    behind = place_of(vernier, x, j) % vernier.a
    return min(behind, vernier.a - behind)


def marks_along_scale(vernier, x):
    """The slide's marks that are seen and lie no further than the scale's end, rising."""
    seen = [j for j in range(vernier.n + 1) if j not in vernier.worn]
    return [j for j in seen if place_of(vernier, x, j) <= scale_length(vernier)]


def meeting_marks(vernier, x):
    """The slide's marks that are seen and meet one of the scale's, rising."""
    return [j for j in marks_along_scale(vernier, x) if far_off(vernier, x, j) == 0]


def places_read(vernier, i):
    """From the scale's mark i on, up to its next one, each x at which some marks meet, rising."""
    start = i * vernier.a
    return [x for x in range(start, start + vernier.a) if len(meeting_marks(vernier, x)) > 0]


def fits(vernier, b, wanted):
    """Whether a slide with marks every b parts reads just as fine as wanted, with the marks there are."""
    return fineness(vernier.a, b) == wanted and has_marks_for(vernier, turns_needed(vernier.a, b))


def marks_further(a, b):
    """How many marks further on the slide meets, when it moves out by as little as it reads."""
    moved = fineness(a, b)
    further = 0
    # Ends within the turns: so many neighbouring marks reach each place that can be reached.
    while (moved + further * b) % a != 0:
        further += 1
    return further
