"""Heaps in a box of a rows and b columns that is c high; heights stand row by row in one list."""


def limit_at(heights, place, b, c):
    """How high this place may be, with the places before it as they are."""
    limit = c
    if place % b > 0:
        limit = min(limit, heights[place - 1])
    if place >= b:
        limit = min(limit, heights[place - b])
    return limit


def is_heap(heights, a, b, c):
    """Whether these are the heights of a heap in the box."""
    if len(heights) != a * b:
        return False
    for place in range(a * b):
        if heights[place] < 0 or heights[place] > limit_at(heights, place, b, c):
            return False
    return True


def heaps_in(a, b, c):
    """All heaps that fit the box, in the order of their numbers."""
    # Each beginning is followed by its own longer ones, the lower height first,
    # so the order holds at every length and nothing has to be sorted.
    found = [[]]
    for place in range(a * b):
        longer = []
        for heights in found:
            for height in range(limit_at(heights, place, b, c) + 1):
                longer.append(heights + [height])
        found = longer
    return found


def moved(heights, place, step):
    """The heights when this place has so many cubes more; step is 1 or -1."""
    after = list(heights)
    after[place] = after[place] + step
    return after
