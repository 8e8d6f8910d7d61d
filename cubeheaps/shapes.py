"""A heap seen otherwise: the paths of its levels, and what it is when turned, filled up or laid."""


def columns_filled(heights, row, b, k):
    """How many columns of this row, counted from 0, are k high at least."""
    return len([height for height in heights[row * b:row * b + b] if height >= k])


def path_of(heights, a, b, k):
    """The steps of the path of level k: 0 to the right, 1 up."""
    steps = []
    behind = 0
    for row in range(a - 1, -1, -1):
        # No row fills fewer columns than the one below it, so the path never has to go back.
        filled = columns_filled(heights, row, b, k)
        steps.extend([0] * (filled - behind))
        steps.append(1)
        behind = filled
    steps.extend([0] * (b - behind))
    return steps


def column_of(heights, column, b):
    """The heights of this column, counted from 0, from the first row to the last."""
    return [height for place, height in enumerate(heights) if place % b == column]


def turned(heights, b):
    """The heights with rows for columns, and columns for rows."""
    after = []
    for column in range(b):
        after.extend(column_of(heights, column, b))
    return after


def filled_up(heights, c):
    """The heights of the cubes that are missing, seen from the opposite corner of the box."""
    # Row a + 1 - i and column b + 1 - j are as far from the end as row i and column j from the beginning.
    return [c - height for height in reversed(heights)]


def laid(heights, b, c):
    """The heights in the box of b rows and c columns when the heap lies on its side."""
    after = []
    for column in range(b):
        stack = column_of(heights, column, b)
        for k in range(1, c + 1):
            after.append(len([height for height in stack if height >= k]))
    return after
