"""What the tests share: calls written out, answers parted, and the document's words done with fractions."""

from fractions import Fraction
from math import isqrt

from hullplanks.planks import answers

LARGEST = 1048575
INT_LEAST = -2147483648
INT_MOST = 2147483647

TAKEN = [0, 0, 0]


def make(places, heights, half_breadths):
    return [1, len(places)] + places + [len(heights)] + heights + [len(half_breadths)] + half_breadths


def girth(i):
    return [2, i]


def mark(i, k, m):
    return [3, i, k, m]


def run(k, m):
    return [4, k, m]


def width(i, k, p):
    return [5, i, k, p]


def piece(k, p):
    return [6, k, p]


def flat(k, p):
    return [7, k, p]


def ask(*calls):
    """Asks the calls on one object and gives back a list of answers, one a call."""
    numbers = [number for call in calls for number in call]
    given = answers(numbers)
    parted = []
    at = 0
    while at < len(given):
        end = at + 1 + given[at]
        parted.append(given[at + 1:end])
        at = end
    if at != len(given) or len(parted) != len(calls):
        raise AssertionError(f"{given} is not {len(calls)} answers with their counts")
    return parted


def last(*calls):
    return ask(*calls)[-1]


def plain_table(stations, levels):
    """Places, heights and half-breadths of a table that is taken if its size is."""
    return list(range(stations)), list(range(levels)), [1] * (stations * levels)


def one_station_table(corners):
    """A table with these (y, z) at station 0, and straight up at 0 at station 1."""
    half_breadths = []
    for y, z in corners:
        half_breadths.extend([y, 0])
    return make([0, 10], [z for y, z in corners], half_breadths)


def nearest(square):
    """The nearest whole number to the root of a fraction, of two as near the even one."""
    below = isqrt(square.numerator // square.denominator)
    middle = Fraction(2 * below + 1, 2) ** 2
    if square == middle:
        return below if below % 2 == 0 else below + 1
    return below if square < middle else below + 1


def length(a, b):
    return nearest(sum((there - here) ** 2 for here, there in zip(a, b)))


def volume(a, b, c, d):
    """Of the box that the ways from a to b, c and d span: 0 just if the four points lie in one plane."""
    (p, q, r), (s, t, u), (v, w, x) = [[there - here for here, there in zip(a, end)] for end in (b, c, d)]
    return p * (t * x - u * w) - q * (s * x - u * v) + r * (s * w - t * v)


class Told:
    """The document's words, done with fractions and with no eye to speed."""

    def __init__(self, places, heights, half_breadths):
        self.places = places
        self.heights = heights
        self.half_breadths = half_breadths

    def corners(self, i):
        stations = len(self.places)
        return [(self.half_breadths[n * stations + i], z) for n, z in enumerate(self.heights)]

    def chords(self, i):
        found = self.corners(i)
        return [nearest(Fraction((b[0] - a[0]) ** 2 + (b[1] - a[1]) ** 2)) for a, b in zip(found, found[1:])]

    def way(self, i, k, m):
        """How far out and up mark m of k lies at station i."""
        target = Fraction(m, k) * sum(self.chords(i))
        so_far = 0
        found = self.corners(i)
        for n, chord in enumerate(self.chords(i)):
            if so_far + chord >= target:
                way = (target - so_far) / chord
                return [Fraction(a) + way * (b - a) for a, b in zip(found[n], found[n + 1])]
            so_far += chord
        raise AssertionError("a mark lies beyond the girth")

    def point(self, i, k, m):
        return [Fraction(self.places[i])] + self.way(i, k, m)

    def bays(self):
        return range(len(self.places) - 1)

    def girth(self, i):
        return [0, sum(self.chords(i))]

    def mark(self, i, k, m):
        y, z = self.way(i, k, m)
        return [0, y.numerator, y.denominator, z.numerator, z.denominator]

    def run(self, k, m):
        return [0, sum(length(self.point(i, k, m), self.point(i + 1, k, m)) for i in self.bays())]

    def width(self, i, k, p):
        return [0, length(self.point(i, k, p), self.point(i, k, p + 1))]

    def piece(self, k, p):
        answer = [0]
        for i in self.bays():
            lower, upper = self.point(i, k, p), self.point(i, k, p + 1)
            next_lower, next_upper = self.point(i + 1, k, p), self.point(i + 1, k, p + 1)
            answer.extend([length(lower, next_lower), length(upper, next_upper), length(lower, next_upper)])
        for i in range(len(self.places)):
            answer.extend(self.width(i, k, p)[1:])
        return answer

    def flat(self, k, p):
        return [0, sum(1 for i in self.bays() if volume(*self.four_marks(i, k, p)) == 0)]

    def four_marks(self, i, k, p):
        return [self.point(station, k, m) for station in (i, i + 1) for m in (p, p + 1)]
