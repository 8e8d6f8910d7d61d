"""The calls on one box with a heap in it, and what they answer."""

from cubeheaps.heaps import heaps_in, is_heap, moved
from cubeheaps.shapes import filled_up, laid, path_of, turned

NOT_AS_TOLD = -1
NO_SUCH_HEAP = -2
MAY_NOT_BE = -6

MOST_ROWS = 3
MOST_COLUMNS = 3
MOST_HIGH = 4


class Box:
    """A box with a heap in it. Its heights are never changed in place, only replaced."""

    def __init__(self):
        self.a = 1
        self.b = 1
        self.c = 1
        # Kept with the box, since numbering and counting go through all heaps each time.
        self.heaps = heaps_in(1, 1, 1)
        self.heights = [0]

    def resize(self, a, b, c, heights):
        """Make it a box of this size, with this heap in it."""
        self.a = a
        self.b = b
        self.c = c
        self.heaps = heaps_in(a, b, c)
        self.heights = heights

    def fits(self, heights):
        """Whether these are the heights of a heap in this box."""
        return is_heap(heights, self.a, self.b, self.c)


def is_within(number, most):
    """Whether a number that counts from 1 is there."""
    return 1 <= number and number <= most


def call_box(box, numbers):
    """Take a box of this size."""
    a = numbers[0]
    b = numbers[1]
    c = numbers[2]
    if not (is_within(a, MOST_ROWS) and is_within(b, MOST_COLUMNS) and is_within(c, MOST_HIGH)):
        return [NOT_AS_TOLD]
    box.resize(a, b, c, [0] * (a * b))
    return [len(box.heaps)]


def call_heap(box, numbers):
    """Take the heap with these heights."""
    if not box.fits(numbers):
        return [NOT_AS_TOLD]
    box.heights = list(numbers)
    return [sum(box.heights)]


def call_nth(box, numbers):
    """Take the heap with this number."""
    n = numbers[0]
    if n >= len(box.heaps):
        return [NO_SUCH_HEAP]
    box.heights = list(box.heaps[n])
    return list(box.heights)


def call_rank(box, numbers):
    """The heap's number."""
    return [box.heaps.index(box.heights)]


def move_cube(box, numbers, step):
    """Put a cube on a place (step 1) or take one from it (step -1)."""
    i = numbers[0]
    j = numbers[1]
    if not (is_within(i, box.a) and is_within(j, box.b)):
        return [NOT_AS_TOLD]
    after = moved(box.heights, (i - 1) * box.b + j - 1, step)
    if not box.fits(after):
        return [MAY_NOT_BE]
    box.heights = after
    return [sum(after)]


def call_put(box, numbers):
    """Put a cube on a place."""
    return move_cube(box, numbers, 1)


def call_take(box, numbers):
    """Take a cube from a place."""
    return move_cube(box, numbers, -1)


def places_to_move(box, step):
    """On how many places a cube may be put (or taken, step -1), and row and column of each."""
    places = [place for place in range(box.a * box.b) if box.fits(moved(box.heights, place, step))]
    told = [len(places)]
    for place in places:
        told.append(place // box.b + 1)
        told.append(place % box.b + 1)
    return told


def call_corners(box, numbers):
    """Where cubes may be put, then where they may be taken."""
    return places_to_move(box, 1) + places_to_move(box, -1)


def call_volume(box, numbers):
    """How many heaps that fit the box have so many cubes."""
    k = numbers[0]
    return [len([heights for heights in box.heaps if sum(heights) == k])]


def call_apart(box, numbers):
    """The fewest cubes to be put or taken till the heap is this one."""
    if not box.fits(numbers):
        return [NOT_AS_TOLD]
    # One move changes one height by one, and towards another heap there's always a move that may be.
    return [sum([abs(own - other) for own, other in zip(box.heights, numbers)])]


def call_over(box, numbers):
    """Take the heap that has the higher of both heights on each place."""
    if not box.fits(numbers):
        return [NOT_AS_TOLD]
    box.heights = [max(own, other) for own, other in zip(box.heights, numbers)]
    return list(box.heights)


def call_under(box, numbers):
    """Take the heap that has the lower of both heights on each place."""
    if not box.fits(numbers):
        return [NOT_AS_TOLD]
    box.heights = [min(own, other) for own, other in zip(box.heights, numbers)]
    return list(box.heights)


def call_path(box, numbers):
    """The steps of the path of this level."""
    k = numbers[0]
    if not is_within(k, box.c):
        return [NOT_AS_TOLD]
    return path_of(box.heights, box.a, box.b, k)


def call_turn(box, numbers):
    """Turn the heap with its box."""
    box.resize(box.b, box.a, box.c, turned(box.heights, box.b))
    return list(box.heights)


def call_fill(box, numbers):
    """Fill up the heap."""
    box.heights = filled_up(box.heights, box.c)
    return list(box.heights)


def call_lay(box, numbers):
    """Lay the heap with its box."""
    # The columns of the box then are as many as it is high now.
    if box.c > MOST_COLUMNS:
        return [MAY_NOT_BE]
    box.resize(box.b, box.c, box.a, laid(box.heights, box.b, box.c))
    return list(box.heights)


def alike_turned(box):
    """How many heaps that fit the box are as they are when turned."""
    if box.a != box.b:
        return 0
    return len([heights for heights in box.heaps if turned(heights, box.b) == heights])


def alike_filled_up(box):
    """How many heaps that fit the box are as they are when filled up."""
    return len([heights for heights in box.heaps if filled_up(heights, box.c) == heights])


def alike_laid(box):
    """How many heaps that fit the box are as they are when laid."""
    if box.a != box.b or box.b != box.c:
        return 0
    return len([heights for heights in box.heaps if laid(heights, box.b, box.c) == heights])


def call_alike(box, numbers):
    """How many heaps that fit the box stay as they are: turned, filled up, laid."""
    return [alike_turned(box), alike_filled_up(box), alike_laid(box)]


ACTIONS = {
    0: call_box,
    1: call_heap,
    2: call_nth,
    3: call_rank,
    4: call_put,
    5: call_take,
    6: call_corners,
    7: call_volume,
    8: call_apart,
    9: call_over,
    10: call_under,
    11: call_path,
    12: call_turn,
    13: call_fill,
    14: call_lay,
    15: call_alike,
}

# How many whole numbers a call has; those with a row have its length ahead of it instead.
WIDTHS = {0: 3, 2: 1, 3: 0, 4: 2, 5: 2, 6: 0, 7: 1, 11: 1, 12: 0, 13: 0, 14: 0, 15: 0}
ROW_CALLS = (1, 8, 9, 10)


def first_of_call(calls, at):
    """Where the numbers of the call at this place begin."""
    if calls[at] in ROW_CALLS:
        return at + 2
    return at + 1


def end_of_call(calls, at):
    """Where the call behind the one at this place begins."""
    if calls[at] in ROW_CALLS:
        return at + 2 + calls[at + 1]
    return at + 1 + WIDTHS[calls[at]]


def answers(calls):
    """What the calls answer on a new box, in order: how many numbers, then these."""
    box = Box()
    answered = []
    at = 0
    while at < len(calls):
        end = end_of_call(calls, at)
        action = ACTIONS[calls[at]]
        numbers = action(box, calls[first_of_call(calls, at):end])
        answered.append(len(numbers))
        answered.extend(numbers)
        at = end
    return answered
