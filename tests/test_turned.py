import unittest

from support import (LARGEST, LOOK, SIZES, ask, ask_many, by_model, model_filled, model_heaps, model_laid, model_turned,
                     some_heaps)


def after(size, heights, *calls):
    return ask(("box", *size), ("heap", heights), *calls)[2:]


class Changes(unittest.TestCase):
    def agree(self, sizes, name, change):
        """The call answers what the model says of each of some heaps, and the heap with its box is this then."""
        for size in sizes:
            for heights in some_heaps(size, 30):
                then, expected = change(size, heights)
                found = after(size, heights, (name,), ("rank",), ("heap", expected), ("volume", sum(expected)))
                rank = model_heaps(*then).index(tuple(expected))
                volume = [sum(heap) for heap in model_heaps(*then)].count(sum(expected))
                self.assertEqual(found, [expected, [rank], [sum(expected)], [volume]], (size, heights))

    def agree_afterwards(self, sizes, name):
        for size in sizes:
            for heights in some_heaps(size, 4):
                calls = (("box", *size), ("heap", heights), (name,), *LOOK)
                self.assertEqual(ask(*calls), by_model(*calls), calls[:3])


class TurnTest(Changes):
    def test_written_out(self):
        self.assertEqual(after((2, 3, 4), [4, 2, 1, 3, 0, 0], ("turn",)), [[4, 3, 2, 0, 1, 0]])
        self.assertEqual(after((3, 2, 4), [4, 3, 2, 0, 1, 0], ("turn",)), [[4, 2, 1, 3, 0, 0]])
        self.assertEqual(after((1, 3, 2), [2, 1, 0], ("turn",)), [[2, 1, 0]])
        self.assertEqual(after((2, 2, 3), [3, 2, 1, 0], ("turn",)), [[3, 1, 2, 0]])
        self.assertEqual(after((3, 3, 4), [4, 3, 2, 1, 1, 1, 0, 0, 0], ("turn",)), [[4, 1, 0, 3, 1, 0, 2, 1, 0]])

    def test_at_the_beginning(self):
        self.assertEqual(ask(("turn",), ("put", 1, 1), ("turn",), ("rank",), ("nth", 2)), [[0], [1], [1], [1], [-2]])

    def test_heaps_of_every_box(self):
        self.agree(SIZES, "turn", model_turned)

    def test_box_and_heap_afterwards(self):
        self.agree_afterwards(SIZES, "turn")

    def test_places_that_were_there_and_are_not_now(self):
        moves = (("put", 1, 3), ("take", 1, 3), ("put", 3, 1), ("take", 3, 1), ("put", 3, 1))
        self.assertEqual(after((1, 3, 2), [2, 2, 1], *moves), [[5 + 1], [5], [-1], [-1], [-1]])
        self.assertEqual(after((1, 3, 2), [2, 2, 1], ("turn",), *moves), [[2, 2, 1], [-1], [-1], [6], [5], [6]])
        self.assertEqual(after((2, 3, 1), [1, 1, 0, 1, 0, 0], ("turn",), ("put", 2, 3), ("put", 3, 1), ("put", 2, 2)),
                         [[1, 1, 1, 0, 0, 0], [-1], [4], [5]])

    def test_numbers_and_volume_afterwards(self):
        parts = after((1, 3, 4), [4, 2, 1], ("turn",), ("rank",), ("volume", 12), ("nth", 34), ("nth", 35))
        rank = model_heaps(3, 1, 4).index((4, 2, 1))
        self.assertEqual(parts, [[4, 2, 1], [rank], [1], [4, 4, 4], [-2]])
        parts = after((2, 3, 2), [2, 2, 2, 0, 0, 0], ("rank",), ("turn",), ("rank",), ("turn",), ("rank",))
        ranks = [[model_heaps(2, 3, 2).index((2, 2, 2, 0, 0, 0))], [model_heaps(3, 2, 2).index((2, 0, 2, 0, 2, 0))]]
        self.assertNotEqual(ranks[0], ranks[1])
        self.assertEqual(parts, [ranks[0], [2, 0, 2, 0, 2, 0], ranks[1], [2, 2, 2, 0, 0, 0], ranks[0]])

    def test_twice_turned_is_as_before(self):
        for size in SIZES:
            for heights in some_heaps(size, 6):
                parts = after(size, heights, ("turn",), ("turn",), *LOOK)
                self.assertEqual(parts[1], heights, size)
                self.assertEqual(parts[2:], by_model(("box", *size), ("heap", heights), *LOOK)[2:], (size, heights))


class FillTest(Changes):
    def test_written_out(self):
        self.assertEqual(after((2, 3, 4), [4, 2, 1, 3, 0, 0], ("fill",)), [[4, 4, 1, 3, 2, 0]])
        self.assertEqual(after((3, 2, 4), [4, 3, 2, 0, 1, 0], ("fill",)), [[4, 3, 4, 2, 1, 0]])
        self.assertEqual(after((1, 3, 2), [2, 0, 0], ("fill",)), [[2, 2, 0]])
        self.assertEqual(after((1, 1, 3), [1], ("fill",)), [[2]])
        self.assertEqual(after((3, 3, 4), [4, 3, 2, 1, 1, 1, 0, 0, 0], ("fill",)), [[4, 4, 4, 3, 3, 3, 2, 1, 0]])

    def test_at_the_beginning(self):
        self.assertEqual(ask(("fill",), ("rank",), ("corners",), ("fill",), ("rank",)),
                         [[1], [1], [0, 1, 1, 1], [0], [0]])

    def test_heaps_of_every_box(self):
        self.agree(SIZES, "fill", model_filled)

    def test_box_and_heap_afterwards(self):
        self.agree_afterwards(SIZES, "fill")

    def test_every_heap_of_small_boxes(self):
        for size in ((1, 3, 2), (3, 1, 2), (2, 2, 2), (2, 3, 1), (3, 2, 1), (1, 2, 3)):
            heaps = [list(heights) for heights in model_heaps(*size)]
            found = ask_many([("box", *size)], [[("heap", heights), ("fill",), ("rank",)] for heights in heaps])
            for heights, part in zip(heaps, found):
                then = model_filled(size, heights)[1]
                self.assertEqual(part[1:], [then, [heaps.index(then)]], (size, heights))

    def test_the_empty_and_the_full_heap(self):
        for size in SIZES:
            empty, full = [0] * (size[0] * size[1]), [size[2]] * (size[0] * size[1])
            self.assertEqual(after(size, empty, ("fill",), ("fill",)), [full, empty], size)
            self.assertEqual(after(size, full, ("fill",), ("fill",)), [empty, full], size)

    def test_twice_filled_up_is_as_before(self):
        for size in SIZES:
            for heights in some_heaps(size, 6):
                parts = after(size, heights, ("fill",), ("fill",), *LOOK)
                self.assertEqual(parts[1], heights, size)
                self.assertEqual(parts[2:], by_model(("box", *size), ("heap", heights), *LOOK)[2:], (size, heights))


class LayTest(Changes):
    low = [size for size in SIZES if size[2] < 4]
    high = [size for size in SIZES if size[2] == 4]

    def test_written_out(self):
        self.assertEqual(after((2, 3, 3), [3, 2, 1, 3, 1, 0], ("lay",), ("lay",), ("lay",)),
                         [[2, 2, 2, 2, 1, 0, 1, 0, 0], [3, 2, 2, 1, 1, 1], [3, 2, 1, 3, 1, 0]])
        self.assertEqual(after((1, 2, 3), [3, 1], ("lay",)), [[1, 1, 1, 1, 0, 0]])
        self.assertEqual(after((3, 1, 2), [2, 1, 0], ("lay",)), [[2, 1]])
        self.assertEqual(after((3, 3, 1), [1, 1, 1, 1, 0, 0, 0, 0, 0], ("lay",)), [[2, 1, 1]])

    def test_at_the_beginning(self):
        self.assertEqual(ask(("lay",), ("put", 1, 1), ("lay",), ("rank",), ("nth", 2)), [[0], [1], [1], [1], [-2]])

    def test_heaps_of_every_box(self):
        self.agree(self.low, "lay", model_laid)

    def test_box_and_heap_afterwards(self):
        self.agree_afterwards(self.low, "lay")

    def test_the_box_is_laid_too(self):
        # From 3, 1, 2 it becomes 1, 2, 3: one row, two columns, three high.
        begin = (("box", 3, 1, 2), ("heap", [2, 1, 0]), ("lay",))
        moves = (("put", 2, 1), ("take", 3, 1), ("put", 1, 3), ("put", 1, 2), ("put", 1, 1), ("put", 1, 1), ("take", 1, 2))
        self.assertEqual(ask(*begin, *moves)[3:], [[-1], [-1], [-1], [4], [5], [-6], [4]])
        self.assertEqual(ask(*begin, ("corners",), ("rank",))[3:],
                         [[2, 1, 1, 1, 2, 2, 1, 1, 1, 2], [model_heaps(1, 2, 3).index((2, 1))]])
        self.assertEqual(ask(*begin, ("path", 0), ("path", 1), ("path", 2), ("path", 3), ("path", 4))[3:],
                         [[-1], [0, 0, 1], [0, 1, 0], [1, 0, 0], [-1]])
        self.assertEqual(ask(*begin, ("volume", 6), ("volume", 2), ("nth", 9), ("nth", 10))[3:], [[1], [2], [3, 3], [-2]])
        self.assertEqual(ask(*begin, ("heap", [3, 3]), ("heap", [2, 1, 0]), ("heap", [4, 0]))[3:], [[6], [-1], [-1]])

    def test_the_size_of_every_box_afterwards(self):
        for a, b, c in self.low:
            full = [a] * (b * c)
            parts = ask(("box", a, b, c), ("fill",), ("lay",), ("take", b, c), ("put", b, c), ("put", b, c),
                        ("put", b + 1, 1), ("put", 1, c + 1), ("path", a), ("path", a + 1), ("heap", full),
                        ("nth", len(model_heaps(b, c, a))), ("volume", a * b * c), ("volume", a * b * c + 1))
            cubes = a * b * c
            self.assertEqual(parts[2:], [full, [cubes - 1], [cubes], [-6], [-1], [-1], [0] * c + [1] * b, [-1],
                                         [cubes], [-2], [1], [0]], (a, b, c))

    def test_four_high_is_refused_and_changes_nothing(self):
        for size in self.high:
            for heights in some_heaps(size, 6):
                parts = after(size, heights, ("lay",), *LOOK)
                self.assertEqual(parts[0], [-6], (size, heights))
                self.assertEqual(parts[1:], by_model(("box", *size), ("heap", heights), *LOOK)[2:], (size, heights))

    def test_a_heap_of_three_levels_in_a_box_four_high_is_refused_too(self):
        self.assertEqual(after((2, 2, 4), [3, 1, 1, 0], ("lay",), ("rank",)),
                         [[-6], [model_heaps(2, 2, 4).index((3, 1, 1, 0))]])
        self.assertEqual(after((3, 3, 4), [0] * 9, ("lay",), ("lay",)), [[-6], [-6]])

    def test_three_times_laid_is_as_before(self):
        for size in self.low:
            for heights in some_heaps(size, 6):
                parts = after(size, heights, ("lay",), ("lay",), ("lay",), *LOOK)
                self.assertEqual(parts[2], heights, size)
                self.assertEqual(parts[3:], by_model(("box", *size), ("heap", heights), *LOOK)[2:], (size, heights))


class TogetherTest(unittest.TestCase):
    def test_turned_filled_up_and_laid_in_every_order(self):
        for size in SIZES:
            for heights in some_heaps(size, 3):
                for first in ("turn", "fill", "lay"):
                    for second in ("turn", "fill", "lay"):
                        calls = (("box", *size), ("heap", heights), (first,), (second,), ("path", 1), ("path", LARGEST),
                                 (first,), ("corners",), (second,), ("rank",), ("alike",))
                        self.assertEqual(ask(*calls), by_model(*calls), calls)


if __name__ == "__main__":
    unittest.main()
