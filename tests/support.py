"""What the tests share: calls by name, answers taken apart, and a plain model to compare with."""

import functools
import itertools
from fractions import Fraction

from cubeheaps.boxes import answers

NUMBERS = {"box": 0, "heap": 1, "nth": 2, "rank": 3, "put": 4, "take": 5, "corners": 6, "volume": 7, "apart": 8,
           "over": 9, "under": 10, "path": 11, "turn": 12, "fill": 13, "lay": 14, "alike": 15}
WITH_ROW = ("heap", "apart", "over", "under")
LARGEST = 4294967295
MOST_CALLS = 40
SIZES = [(a, b, c) for a in (1, 2, 3) for b in (1, 2, 3) for c in (1, 2, 3, 4)]

# Calls that show box and heap from many sides; the last of them change the heap, so nothing is asked behind them.
LOOK = (
    ("rank",), ("corners",), ("path", 1), ("path", 2), ("path", 3), ("path", 4), ("path", 5), ("volume", 2),
    ("volume", 6), ("volume", 12), ("volume", 36), ("alike",), ("put", 2, 1), ("put", 1, 2), ("take", 3, 1),
    ("take", 1, 3), ("put", 1, 1), ("nth", 1), ("fill",), ("turn",), ("rank",), ("put", 2, 1), ("take", 1, 2),
    ("lay",), ("rank",), ("corners",),
)


class Untouched(list):
    """A list that fails at once when it is changed."""

    def refuse(self, *args, **kwargs):
        raise AssertionError("the list handed in was changed")

    append = extend = insert = pop = remove = clear = sort = reverse = refuse
    __setitem__ = __delitem__ = __iadd__ = __imul__ = refuse


def written(calls):
    """The calls, each a tuple of its name and its numbers (or its one row), as one list."""
    row = []
    for call in calls:
        row.append(NUMBERS[call[0]])
        if call[0] in WITH_ROW:
            row.append(len(call[1]))
            row.extend(call[1])
        else:
            row.extend(call[1:])
    return row


def taken_apart(answered, calls):
    """The answers, a list for each call; fails if the counts don't fit or a number is no int."""
    assert type(answered) is list, answered
    assert all(type(number) is int for number in answered), answered
    parts = []
    at = 0
    while at < len(answered):
        count = answered[at]
        part = answered[at + 1:at + 1 + count]
        assert count >= 1 and len(part) == count, answered
        assert all(number >= 0 for number in part) or count == 1, part
        parts.append(part)
        at += 1 + count
    assert len(parts) == calls, answered
    return parts


def ask(*calls):
    """What these calls answer, a list for each."""
    assert 1 <= len(calls) <= MOST_CALLS
    handed = written(calls)
    assert len(handed) <= 640
    return taken_apart(answers(Untouched(handed)), len(calls))


def last(*calls):
    """What the last of these calls answers."""
    return ask(*calls)[-1]


def ask_many(begin, groups):
    """What each group of calls answers, each group in turn behind the same beginning."""
    found = []
    waiting = []
    for group in groups:
        if waiting and len(begin) + sum(map(len, waiting)) + len(group) > MOST_CALLS:
            found.extend(ask_groups(begin, waiting))
            waiting = []
        waiting.append(group)
    if waiting:
        found.extend(ask_groups(begin, waiting))
    return found


def ask_groups(begin, groups):
    parts = iter(ask(*begin, *itertools.chain(*groups))[len(begin):])
    return [[next(parts) for call in group] for group in groups]


def falls(row):
    return all(row[k] >= row[k + 1] for k in range(len(row) - 1))


@functools.lru_cache(maxsize=None)
def model_heaps(a, b, c):
    """All heaps in the box as tuples, sorted: rows that fall, in every order, whose columns fall."""
    rows = [row for row in itertools.product(range(c + 1), repeat=b) if falls(row)]
    found = []
    for floor in itertools.product(rows, repeat=a):
        if all(falls(column) for column in zip(*floor)):
            found.append(tuple(itertools.chain(*floor)))
    return sorted(found)


def model_move(size, heights, i, j, step):
    """The heights when a cube is put or taken there, or None if it may not be."""
    after = list(heights)
    after[(i - 1) * size[1] + j - 1] += step
    return after if tuple(after) in model_index(*size) else None


@functools.lru_cache(maxsize=None)
def model_index(a, b, c):
    return {heights: n for n, heights in enumerate(model_heaps(a, b, c))}


def floor_places(size):
    """Row and column of each place, row by row."""
    return [(i, j) for i in range(1, size[0] + 1) for j in range(1, size[1] + 1)]


def model_corners(size, heights):
    told = []
    for step in (1, -1):
        places = [place for place in floor_places(size) if model_move(size, heights, *place, step) is not None]
        told.append(len(places))
        told.extend(itertools.chain(*places))
    return told


def some_heaps(size, most=40):
    """Heaps spread over the whole box, the first and the last among them."""
    heaps = model_heaps(*size)
    step = max(1, len(heaps) // most)
    return [list(heights) for heights in heaps[::step]] + [list(heaps[-1])]


def wrong_heights(size):
    """Rows that are no heap in the box: by their count, or by one height alone."""
    a, b, c = size
    places = a * b
    wrong = [[], [0] * (places - 1), [c] * (places - 1), [0] * (places + 1), [c] * (places + 1), [0] * 14, [c] * 14]
    for height in (c + 1, LARGEST):
        wrong.append([height] + [0] * (places - 1))
        wrong.append([height] * places)
        wrong.append([c] * (places - 1) + [height])
    if b > 1:
        wrong.append([c] * (places - b) + [0, 1] + [0] * (b - 2))
        wrong.append([c] * (places - 2) + [c - 1, c])
    if a > 1:
        floor = [[c] * (b - 1) + [height] for height in ([0, 1] + [0] * (a - 2))]
        wrong.append(list(itertools.chain(*floor)))
        wrong.append([c] * (places - b - 1) + [c - 1] + [c] * b)
    return wrong


def macmahon(a, b, c):
    product = Fraction(1)
    for i in range(1, a + 1):
        for j in range(1, b + 1):
            product *= Fraction(i + j + c - 1, i + j - 1)
    return int(product)


def model_places(size, heights):
    """The height of each place by its row and column."""
    return dict(zip(floor_places(size), heights))


def model_turned(size, heights):
    a, b, c = size
    at = model_places(size, heights)
    return (b, a, c), [at[j, i] for i, j in floor_places((b, a, c))]


def model_filled(size, heights):
    a, b, c = size
    at = model_places(size, heights)
    return size, [c - at[a + 1 - i, b + 1 - j] for i, j in floor_places(size)]


def model_laid(size, heights):
    """Laid cube by cube: the one in row i, column j and level k comes to row j, column k and level i."""
    a, b, c = size
    cubes = [(j, k) for (i, j), height in model_places(size, heights).items() for k in range(1, height + 1)]
    return (b, c, a), [cubes.count(place) for place in floor_places((b, c, a))]


def model_path(size, heights, k):
    """Walked step by step: to the right while the place ahead is in the level, and above the first row."""
    a, b, c = size
    at = model_places(size, heights)
    row, behind, steps = a, 0, []
    while row > 0 or behind < b:
        right = row == 0 or at.get((row, behind + 1), 0) >= k
        steps.append(0 if right else 1)
        row, behind = (row, behind + 1) if right else (row - 1, behind)
    return steps


def model_distances(size, heights):
    """The fewest moves from this heap to each one, found by going out from it move by move."""
    found = {tuple(heights): 0}
    edge = [tuple(heights)]
    while edge:
        further = []
        for here in edge:
            for place in floor_places(size):
                for step in (1, -1):
                    then = model_move(size, here, *place, step)
                    if then is not None and tuple(then) not in found:
                        found[tuple(then)] = found[here] + 1
                        further.append(tuple(then))
        edge = further
    return found


@functools.lru_cache(maxsize=None)
def model_alike(size):
    counts = []
    for change in (model_turned, model_filled, model_laid):
        same = [heights for heights in model_heaps(*size) if change(size, heights) == (size, list(heights))]
        counts.append(len(same))
    return counts


class Model:
    """The calls told once more, by tables of all heaps."""

    def __init__(self):
        self.size = (1, 1, 1)
        self.heights = [0]

    def fits(self, heights):
        return tuple(heights) in model_index(*self.size)

    def box(self, a, b, c):
        if (a, b, c) not in SIZES:
            return [-1]
        self.size = (a, b, c)
        self.heights = [0] * (a * b)
        return [len(model_heaps(a, b, c))]

    def heap(self, heights):
        if not self.fits(heights):
            return [-1]
        self.heights = list(heights)
        return [sum(heights)]

    def nth(self, n):
        heaps = model_heaps(*self.size)
        if n >= len(heaps):
            return [-2]
        self.heights = list(heaps[n])
        return list(heaps[n])

    def rank(self):
        return [model_index(*self.size)[tuple(self.heights)]]

    def move(self, i, j, step):
        if (i, j) not in floor_places(self.size):
            return [-1]
        then = model_move(self.size, self.heights, i, j, step)
        if then is None:
            return [-6]
        self.heights = then
        return [sum(then)]

    def put(self, i, j):
        return self.move(i, j, 1)

    def take(self, i, j):
        return self.move(i, j, -1)

    def corners(self):
        return model_corners(self.size, self.heights)

    def volume(self, k):
        return [len([heights for heights in model_heaps(*self.size) if sum(heights) == k])]

    def apart(self, heights):
        if not self.fits(heights):
            return [-1]
        both = zip(self.heights, heights)
        return [sum(max(pair) - min(pair) for pair in both)]

    def join(self, heights, choose):
        if not self.fits(heights):
            return [-1]
        self.heights = list(map(choose, self.heights, heights))
        return list(self.heights)

    def over(self, heights):
        return self.join(heights, max)

    def under(self, heights):
        return self.join(heights, min)

    def path(self, k):
        return model_path(self.size, self.heights, k) if 1 <= k <= self.size[2] else [-1]

    def change(self, how):
        self.size, self.heights = how(self.size, self.heights)
        return list(self.heights)

    def turn(self):
        return self.change(model_turned)

    def fill(self):
        return self.change(model_filled)

    def lay(self):
        return [-6] if self.size[2] == 4 else self.change(model_laid)

    def alike(self):
        return list(model_alike(self.size))


def by_model(*calls):
    """What these calls answer, told by the model, a list for each."""
    model = Model()
    return [getattr(model, call[0])(*call[1:]) for call in calls]
