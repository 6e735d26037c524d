"""Girths, marks and lengths of a hull's planks, asked by calls on one object."""

LARGEST_MEASURE = 1048575
FEWEST_STATIONS = 2
MOST_STATIONS = 24
FEWEST_LEVELS = 2
MOST_LEVELS = 16
MOST_PLANKS = 64

MAKE = 1
GIRTH = 2
MARK = 3
RUN = 4
WIDTH = 5
PIECE = 6
FLAT = 7

NO_TABLE = -3
NO_SUCH_PLANKS = -1
NO_SUCH_STATION = -4

TABLE_TAKEN = 0
WRONG_COUNT = 1
WRONG_SIZE = 2
WRONG_PLACE = 3
WRONG_HEIGHT = 4
WRONG_HALF_BREADTH = 5


class UnknownCall(ValueError):
    """The number of a call that is not answered here."""


class Reader:
    """Goes through the list of calls; it only reads, since the list is not its own."""

    def __init__(self, calls):
        self.calls = calls
        self.at = 0

    def has_more(self):
        return self.at < len(self.calls)

    def number(self):
        found = self.calls[self.at]
        self.at = self.at + 1
        return found

    def row(self):
        start = self.at + 1
        self.at = start + self.calls[self.at]
        return self.calls[start:self.at]


class Hull:
    """The object of the calls; without stations it has no table."""

    def __init__(self):
        self.places = []
        self.corners = []
        self.chords = []

    def has_table(self):
        return len(self.places) > 0

    def has_station(self, i):
        return 0 <= i < len(self.places)

    def take_table(self, places, heights, half_breadths):
        self.places = places
        self.corners = [station_corners(i, len(places), heights, half_breadths) for i in range(len(places))]
        # Kept, since every mark at a station asks for all of its chords.
        self.chords = [station_chords(corners) for corners in self.corners]


class Point:
    """A mark at its station's place; y and z are divided by parts, and kept so that all is whole."""

    def __init__(self, place, y, z, parts):
        self.place = place
        self.y = y
        self.z = z
        self.parts = parts


def floor_root(square):
    """The largest whole number whose square is not above the given one."""
    root = 1
    while root * root < square:
        root = root * 2
    # From above each step comes nearer and never falls below the root sought.
    while root * root > square:
        root = (root + square // root) // 2
    return root


def nearest_root(square, parts):
    """The nearest whole number to (the root of square) / parts; of two as near the even one."""
    below = floor_root(square // (parts * parts))
    # The middle between below and the next is a half: compared twice as large, all is whole.
    middle = (2 * below + 1) * parts
    if 4 * square < middle * middle:
        return below
    if 4 * square > middle * middle:
        return below + 1
    return below + below % 2


def common_divisor(a, b):
    while b > 0:
        rest = a % b
        a = b
        b = rest
    return a


def quotient(top, bottom):
    """The two numbers of a quotient in lowest terms; bottom is above 0."""
    divisor = common_divisor(abs(top), bottom)
    return [top // divisor, bottom // divisor]


def station_corners(i, stations, heights, half_breadths):
    return [(half_breadths[level * stations + i], height) for level, height in enumerate(heights)]


def chord(start, end):
    outwards = end[0] - start[0]
    upwards = end[1] - start[1]
    return nearest_root(outwards * outwards + upwards * upwards, 1)


def station_chords(corners):
    return [chord(corners[level], corners[level + 1]) for level in range(len(corners) - 1)]


def mark_point(hull, i, k, m):
    """Mark m of k planks at station i."""
    chords = hull.chords[i]
    # Lengths are taken k times, so that m / k of the girth is whole.
    left = m * sum(chords)
    level = 0
    while left > k * chords[level]:
        left = left - k * chords[level]
        level = level + 1
    parts = k * chords[level]
    start = hull.corners[i][level]
    end = hull.corners[i][level + 1]
    y = start[0] * parts + left * (end[0] - start[0])
    z = start[1] * parts + left * (end[1] - start[1])
    return Point(hull.places[i], y, z, parts)


def seam_points(hull, k, m):
    """Mark m of k planks at each station in order."""
    return [mark_point(hull, i, k, m) for i in range(len(hull.places))]


def across(a, b):
    """How far b lies outwards of a and above it; both times the parts of a and of b, so that they are whole."""
    return (b.y * a.parts - a.y * b.parts, b.z * a.parts - a.z * b.parts)


def length_between(a, b):
    parts = a.parts * b.parts
    along = (b.place - a.place) * parts
    way = across(a, b)
    return nearest_root(along * along + way[0] * way[0] + way[1] * way[1], parts)


def lies_flat(lower, upper, next_lower, next_upper):
    """Whether a bay's four marks lie in one plane: two at a station, two at the next."""
    # A plane meets two stations in lines of one direction, since stations stand side by side;
    # so it is enough to ask whether the ways across the plank at both have one direction.
    here = across(lower, upper)
    there = across(next_lower, next_upper)
    return here[0] * there[1] == here[1] * there[0]


def first_not_measure(numbers, least):
    """Where the first number lies that is not from least to the largest measure, or None."""
    for at, number in enumerate(numbers):
        if number < least or number > LARGEST_MEASURE:
            return at
    return None


def first_not_rising(numbers, least):
    """Like first_not_measure, but each number must be above the one before too."""
    for at, number in enumerate(numbers):
        if number < least or number > LARGEST_MEASURE:
            return at
        least = number + 1
    return None


def size_fault(places, heights, half_breadths):
    """The kind and number of what is wrong with how many there are, or None."""
    if len(places) < FEWEST_STATIONS or len(places) > MOST_STATIONS:
        return [WRONG_SIZE, 0]
    if len(heights) < FEWEST_LEVELS or len(heights) > MOST_LEVELS:
        return [WRONG_SIZE, 1]
    if len(half_breadths) != len(places) * len(heights):
        return [WRONG_COUNT, len(half_breadths)]
    return None


def measure_fault(places, heights, half_breadths):
    """The kind and number of the first measure that is wrong, or None."""
    at = first_not_rising(places, 0)
    if at is not None:
        return [WRONG_PLACE, at]
    at = first_not_rising(heights, -LARGEST_MEASURE)
    if at is not None:
        return [WRONG_HEIGHT, at]
    at = first_not_measure(half_breadths, 0)
    if at is not None:
        return [WRONG_HALF_BREADTH, at]
    return None


def make(hull, places, heights, half_breadths):
    fault = size_fault(places, heights, half_breadths)
    if fault is None:
        fault = measure_fault(places, heights, half_breadths)
    if fault is not None:
        return [0] + fault
    hull.take_table(places, heights, half_breadths)
    return [0, TABLE_TAKEN, 0]


def is_mark(k, m):
    return 1 <= k <= MOST_PLANKS and 0 <= m <= k


def is_plank(k, p):
    return 1 <= k <= MOST_PLANKS and 0 <= p < k


def girth(hull, i):
    if not hull.has_table():
        return [NO_TABLE]
    if not hull.has_station(i):
        return [NO_SUCH_STATION]
    return [0, sum(hull.chords[i])]


def mark(hull, i, k, m):
    if not hull.has_table():
        return [NO_TABLE]
    if not is_mark(k, m):
        return [NO_SUCH_PLANKS]
    if not hull.has_station(i):
        return [NO_SUCH_STATION]
    point = mark_point(hull, i, k, m)
    return [0] + quotient(point.y, point.parts) + quotient(point.z, point.parts)


def run(hull, k, m):
    if not hull.has_table():
        return [NO_TABLE]
    if not is_mark(k, m):
        return [NO_SUCH_PLANKS]
    points = seam_points(hull, k, m)
    return [0, sum([length_between(points[i], points[i + 1]) for i in range(len(points) - 1)])]


def width(hull, i, k, p):
    if not hull.has_table():
        return [NO_TABLE]
    if not is_plank(k, p):
        return [NO_SUCH_PLANKS]
    if not hull.has_station(i):
        return [NO_SUCH_STATION]
    return [0, length_between(mark_point(hull, i, k, p), mark_point(hull, i, k, p + 1))]


def piece(hull, k, p):
    if not hull.has_table():
        return [NO_TABLE]
    if not is_plank(k, p):
        return [NO_SUCH_PLANKS]
    lower = seam_points(hull, k, p)
    upper = seam_points(hull, k, p + 1)
    answer = [0]
    for i in range(len(lower) - 1):
        answer.append(length_between(lower[i], lower[i + 1]))
        answer.append(length_between(upper[i], upper[i + 1]))
        answer.append(length_between(lower[i], upper[i + 1]))
    return answer + [length_between(lower[i], upper[i]) for i in range(len(lower))]


def flat(hull, k, p):
    if not hull.has_table():
        return [NO_TABLE]
    if not is_plank(k, p):
        return [NO_SUCH_PLANKS]
    lower = seam_points(hull, k, p)
    upper = seam_points(hull, k, p + 1)
    bays_flat = 0
    for i in range(len(lower) - 1):
        if lies_flat(lower[i], upper[i], lower[i + 1], upper[i + 1]):
            bays_flat = bays_flat + 1
    return [0, bays_flat]


def answer_next(hull, reader):
    """Reads one call with all that belongs to it, refused or not, and answers it."""
    call = reader.number()
    if call == MAKE:
        places = reader.row()
        heights = reader.row()
        half_breadths = reader.row()
        return make(hull, places, heights, half_breadths)
    if call == GIRTH:
        return girth(hull, reader.number())
    if call == MARK:
        i = reader.number()
        k = reader.number()
        m = reader.number()
        return mark(hull, i, k, m)
    if call == RUN:
        k = reader.number()
        m = reader.number()
        return run(hull, k, m)
    if call == WIDTH:
        i = reader.number()
        k = reader.number()
        p = reader.number()
        return width(hull, i, k, p)
    if call == PIECE:
        k = reader.number()
        p = reader.number()
        return piece(hull, k, p)
    if call == FLAT:
        k = reader.number()
        p = reader.number()
        return flat(hull, k, p)
    raise UnknownCall(f"no call {call}")


def answers(calls):
    """Answers the calls on one new object: for each how many numbers are answered, then these."""
    hull = Hull()
    reader = Reader(calls)
    answered = []
    while reader.has_more():
        answer = answer_next(hull, reader)
        answered.append(len(answer))
        answered.extend(answer)
    return answered
