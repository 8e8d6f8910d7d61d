import unittest

from support import (LARGEST, SIZES, ask, ask_many, floor_places, model_corners, model_heaps, model_index, model_move,
                     some_heaps)

LARGE = (3, 3, 4)


class PutAndTakeTest(unittest.TestCase):
    def after(self, size, heights, call):
        """What the call answers, and the number of the heap then."""
        return ask(("box", *size), ("heap", heights), call, ("rank",))[2:]

    def refused(self, size, heights, call, refusal):
        rank = model_index(*size)[tuple(heights)]
        self.assertEqual(self.after(size, heights, call), [[refusal], [rank]], (size, heights, call))

    def test_ordinary(self):
        parts = ask(("box", 2, 2, 2), ("put", 1, 1), ("put", 1, 2), ("put", 2, 1), ("put", 2, 2), ("put", 1, 1),
                    ("rank",), ("take", 2, 2), ("take", 2, 1), ("take", 1, 2), ("take", 1, 1), ("take", 1, 1), ("rank",))
        rank = model_heaps(2, 2, 2).index((2, 1, 1, 1))
        self.assertEqual(parts[1:], [[1], [2], [3], [4], [5], [rank], [4], [3], [2], [1], [0], [0]])

    def test_a_whole_box_is_filled_and_emptied(self):
        for c in (1, 4):
            calls = [("put", i, j) for i, j in floor_places((3, 3, c)) for cube in range(c)]
            parts = ask(("box", 3, 3, c), *calls, ("corners",))
            self.assertEqual(parts[1:], [[k] for k in range(1, 9 * c + 1)] + [[0, 1, 3, 3]])
            calls = [("take", i, j) for i, j in reversed(floor_places((3, 3, c))) for cube in range(c)]
            parts = ask(("box", 3, 3, c), ("heap", [c] * 9), *calls, ("corners",))
            self.assertEqual(parts[2:], [[k] for k in range(9 * c - 1, -1, -1)] + [[1, 1, 1, 0]])

    def test_each_place_of_every_box(self):
        for size in SIZES:
            tries = [(heights, name, step, place) for heights in some_heaps(size, 12)
                     for name, step in (("put", 1), ("take", -1)) for place in floor_places(size)]
            groups = [[("heap", heights), (name, *place), ("rank",)] for heights, name, step, place in tries]
            for case, found in zip(tries, ask_many([("box", *size)], groups)):
                heights, name, step, place = case
                then = model_move(size, heights, *place, step)
                answer = [-6] if then is None else [sum(then)]
                rank = model_index(*size)[tuple(heights if then is None else then)]
                self.assertEqual(found[1:], [answer, [rank]], (size, case))

    def test_no_such_place(self):
        for size in SIZES:
            a, b, c = size
            heights = [1] + [0] * (a * b - 1)
            wrong = [(0, 1), (1, 0), (0, 0), (a + 1, 1), (1, b + 1), (a + 1, b + 1), (LARGEST, 1), (1, LARGEST),
                     (LARGEST, LARGEST), (0, b), (a, 0), (a, b + 1), (a + 1, b), (0, b + 1), (2, 0) if a > 1 else (0, 2)]
            groups = [[(name, *place), ("rank",)] for name in ("put", "take") for place in wrong]
            found = ask_many([("box", *size), ("heap", heights)], groups)
            rank = model_index(*size)[tuple(heights)]
            self.assertEqual(found, [[[-1], [rank]]] * len(groups), size)

    def test_no_such_place_where_the_floor_is_not_square(self):
        for name in ("put", "take"):
            self.refused((1, 3, 2), [1, 0, 0], (name, 2, 1), -1)
            self.refused((1, 3, 2), [1, 0, 0], (name, 3, 1), -1)
            self.refused((3, 1, 2), [1, 0, 0], (name, 1, 2), -1)
            self.refused((3, 1, 2), [1, 0, 0], (name, 1, 3), -1)
            self.refused((2, 3, 2), [1, 0, 0, 0, 0, 0], (name, 3, 1), -1)
            self.refused((2, 3, 2), [1, 0, 0, 0, 0, 0], (name, 3, 2), -1)
            self.refused((3, 2, 2), [1, 0, 0, 0, 0, 0], (name, 1, 3), -1)
            self.refused((3, 2, 2), [1, 0, 0, 0, 0, 0], (name, 2, 3), -1)
        self.assertEqual(self.after((2, 3, 2), [1, 0, 0, 0, 0, 0], ("put", 1, 2))[0], [2])
        self.assertEqual(self.after((1, 3, 2), [1, 1, 0], ("put", 1, 3))[0], [3])
        self.assertEqual(self.after((3, 1, 2), [1, 1, 0], ("put", 3, 1))[0], [3])

    def test_put_is_held_by_the_row(self):
        self.refused((1, 2, 4), [1, 1], ("put", 1, 2), -6)
        self.refused(LARGE, [4, 4, 4, 4, 2, 2, 0, 0, 0], ("put", 2, 3), -6)
        self.assertEqual(self.after(LARGE, [4, 4, 4, 4, 3, 2, 0, 0, 0], ("put", 2, 3))[0], [22])

    def test_put_is_held_by_the_column(self):
        self.refused((2, 1, 4), [1, 1], ("put", 2, 1), -6)
        self.refused(LARGE, [4, 4, 2, 4, 4, 2, 0, 0, 0], ("put", 2, 3), -6)
        self.assertEqual(self.after(LARGE, [4, 4, 3, 4, 4, 2, 0, 0, 0], ("put", 2, 3))[0], [22])

    def test_put_is_held_by_the_height_of_the_box(self):
        for c in (1, 2, 3, 4):
            self.refused((1, 1, c), [c], ("put", 1, 1), -6)
            self.refused((3, 3, c), [c] + [0] * 8, ("put", 1, 1), -6)
            self.assertEqual(self.after((1, 1, c), [c - 1], ("put", 1, 1))[0], [c])

    def test_put_is_not_held_by_the_end_of_the_row_before(self):
        self.assertEqual(self.after((2, 2, 4), [4, 0, 0, 0], ("put", 2, 1))[0], [5])

    def test_take_is_held_by_no_height(self):
        self.refused((1, 1, 1), [0], ("take", 1, 1), -6)
        self.refused(LARGE, [0] * 9, ("take", 1, 1), -6)
        self.refused(LARGE, [1] + [0] * 8, ("take", 3, 3), -6)
        self.refused(LARGE, [4, 4, 4, 4, 4, 4, 4, 4, 0], ("take", 3, 3), -6)

    def test_take_is_held_by_the_next_in_the_row(self):
        self.refused((1, 2, 4), [1, 1], ("take", 1, 1), -6)
        self.refused(LARGE, [4, 4, 4, 4, 2, 2, 0, 0, 0], ("take", 2, 2), -6)
        self.assertEqual(self.after(LARGE, [4, 4, 4, 4, 2, 1, 0, 0, 0], ("take", 2, 2))[0], [18])

    def test_take_is_held_by_the_next_in_the_column(self):
        self.refused((2, 1, 4), [1, 1], ("take", 1, 1), -6)
        self.refused(LARGE, [4, 4, 0, 4, 2, 0, 4, 2, 0], ("take", 2, 2), -6)
        self.assertEqual(self.after(LARGE, [4, 4, 0, 4, 2, 0, 4, 1, 0], ("take", 2, 2))[0], [18])

    def test_take_is_not_held_by_the_beginning_of_the_next_row(self):
        self.assertEqual(self.after((2, 2, 4), [4, 1, 4, 0], ("take", 1, 2))[0], [8])

    def test_no_place_is_told_ahead_of_may_not_be(self):
        # Nothing can be put on the full heap or taken from the empty one, whatever the place.
        for size in SIZES:
            a, b, c = size
            for place in ((0, 1), (1, 0), (a + 1, 1), (1, b + 1), (LARGEST, LARGEST)):
                self.refused(size, [c] * (a * b), ("put", *place), -1)
                self.refused(size, [0] * (a * b), ("take", *place), -1)

    def test_a_refusal_changes_nothing(self):
        begin = (("box", 2, 3, 4), ("heap", [4, 2, 0, 3, 1, 0]))
        look = (("rank",), ("corners",), ("volume", 7), ("nth", 489), ("nth", 490))
        before = ask(*begin, *look)[2:]
        for call, refusal in ((("put", 1, 1), -6), (("take", 2, 3), -6), (("put", 3, 1), -1), (("take", 1, 4), -1)):
            after = ask(*begin, call, *look)
            self.assertEqual(after[2], [refusal], call)
            self.assertEqual(after[3:], before, call)


class CornersTest(unittest.TestCase):
    def corners(self, size, heights):
        return ask(("box", *size), ("heap", heights), ("corners",))[2]

    def test_written_out(self):
        self.assertEqual(self.corners((2, 2, 2), [1, 0, 0, 0]), [3, 1, 1, 1, 2, 2, 1, 1, 1, 1])
        self.assertEqual(self.corners((3, 3, 4), [3, 2, 1, 2, 1, 0, 1, 0, 0]),
                         [8, 1, 1, 1, 2, 1, 3, 2, 1, 2, 2, 2, 3, 3, 1, 3, 2, 6, 1, 1, 1, 2, 1, 3, 2, 1, 2, 2, 3, 1])
        self.assertEqual(self.corners((2, 3, 2), [2, 2, 1, 2, 0, 0]), [2, 1, 3, 2, 2, 3, 1, 2, 1, 3, 2, 1])

    def test_empty_and_full(self):
        for size in SIZES:
            a, b, c = size
            self.assertEqual(self.corners(size, [0] * (a * b)), [1, 1, 1, 0], size)
            self.assertEqual(self.corners(size, [c] * (a * b)), [0, 1, a, b], size)

    def test_every_heap_of_middling_boxes(self):
        for size in ((1, 3, 4), (3, 1, 4), (2, 2, 3), (2, 3, 2), (3, 2, 2), (3, 3, 2)):
            heaps = model_heaps(*size)
            groups = [[("heap", list(heights)), ("corners",)] for heights in heaps]
            for heights, found in zip(heaps, ask_many([("box", *size)], groups)):
                self.assertEqual(found[1], model_corners(size, heights), (size, heights))

    def test_agrees_with_put_and_take_place_by_place(self):
        for size in SIZES:
            for heights in some_heaps(size, 12):
                told = []
                for name in ("put", "take"):
                    groups = [[("heap", heights), (name, *place)] for place in floor_places(size)]
                    found = ask_many([("box", *size)], groups)
                    places = [place for place, part in zip(floor_places(size), found) if part[1] != [-6]]
                    told += [len(places)] + [number for place in places for number in place]
                self.assertEqual(self.corners(size, heights), told, (size, heights))

    def test_changes_nothing(self):
        parts = ask(("box", 3, 3, 4), ("nth", 1234), ("corners",), ("rank",), ("corners",), ("nth", 1234))
        self.assertEqual(parts[3], [1234])
        self.assertEqual(parts[2], parts[4])
        self.assertEqual(parts[1], parts[5])


if __name__ == "__main__":
    unittest.main()
