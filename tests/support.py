"""What the tests share: calls by name, answers taken apart, and a plain model to compare with."""

import functools
import itertools

from cubeheaps.boxes import answers

NUMBERS = {"box": 0, "heap": 1, "nth": 2, "rank": 3, "put": 4, "take": 5, "corners": 6, "volume": 7}
WITH_ROW = ("heap",)
LARGEST = 4294967295
MOST_CALLS = 40
SIZES = [(a, b, c) for a in (1, 2, 3) for b in (1, 2, 3) for c in (1, 2, 3, 4)]


class Untouched(list):
    """A list that fails at once when it is changed."""

    def refuse(self, *args, **kwargs):
        raise AssertionError("the list handed in was changed")

    append = extend = insert = pop = remove = clear = sort = reverse = refuse
    __setitem__ = __delitem__ = __iadd__ = __imul__ = refuse


def written(calls):
    """The calls, each a tuple of its name and its numbers (or its one row), as one list."""
    row = []
    for call in calls:
        row.append(NUMBERS[call[0]])
        if call[0] in WITH_ROW:
            row.append(len(call[1]))
            row.extend(call[1])
        else:
            row.extend(call[1:])
    return row


def taken_apart(answered, calls):
    """The answers, a list for each call; fails if the counts don't fit or a number is no int."""
    assert type(answered) is list, answered
    assert all(type(number) is int for number in answered), answered
    parts = []
    at = 0
    while at < len(answered):
        count = answered[at]
        part = answered[at + 1:at + 1 + count]
        assert count >= 1 and len(part) == count, answered
        assert all(number >= 0 for number in part) or count == 1, part
        parts.append(part)
        at += 1 + count
    assert len(parts) == calls, answered
    return parts


def ask(*calls):
    """What these calls answer, a list for each."""
    assert 1 <= len(calls) <= MOST_CALLS
    handed = written(calls)
    assert len(handed) <= 640
    return taken_apart(answers(Untouched(handed)), len(calls))


def last(*calls):
    """What the last of these calls answers."""
    return ask(*calls)[-1]


def ask_many(begin, groups):
    """What each group of calls answers, each group in turn behind the same beginning."""
    found = []
    waiting = []
    for group in groups:
        if waiting and len(begin) + sum(map(len, waiting)) + len(group) > MOST_CALLS:
            found.extend(ask_groups(begin, waiting))
            waiting = []
        waiting.append(group)
    if waiting:
        found.extend(ask_groups(begin, waiting))
    return found


def ask_groups(begin, groups):
    parts = iter(ask(*begin, *itertools.chain(*groups))[len(begin):])
    return [[next(parts) for call in group] for group in groups]


def falls(row):
    return all(row[k] >= row[k + 1] for k in range(len(row) - 1))


@functools.lru_cache(maxsize=None)
def model_heaps(a, b, c):
    """All heaps in the box as tuples, sorted: rows that fall, in every order, whose columns fall."""
    rows = [row for row in itertools.product(range(c + 1), repeat=b) if falls(row)]
    found = []
    for floor in itertools.product(rows, repeat=a):
        if all(falls(column) for column in zip(*floor)):
            found.append(tuple(itertools.chain(*floor)))
    return sorted(found)


def model_move(size, heights, i, j, step):
    """The heights when a cube is put or taken there, or None if it may not be."""
    after = list(heights)
    after[(i - 1) * size[1] + j - 1] += step
    return after if tuple(after) in model_index(*size) else None


@functools.lru_cache(maxsize=None)
def model_index(a, b, c):
    return {heights: n for n, heights in enumerate(model_heaps(a, b, c))}


def floor_places(size):
    """Row and column of each place, row by row."""
    return [(i, j) for i in range(1, size[0] + 1) for j in range(1, size[1] + 1)]


def model_corners(size, heights):
    told = []
    for step in (1, -1):
        places = [place for place in floor_places(size) if model_move(size, heights, *place, step) is not None]
        told.append(len(places))
        told.extend(itertools.chain(*places))
    return told


def some_heaps(size, most=40):
    """Heaps spread over the whole box, the first and the last among them."""
    heaps = model_heaps(*size)
    step = max(1, len(heaps) // most)
    return [list(heights) for heights in heaps[::step]] + [list(heaps[-1])]
