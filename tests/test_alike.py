import unittest
from fractions import Fraction

from support import LOOK, SIZES, ask, ask_many, by_model, macmahon, model_alike, model_heaps


def symmetric(a, c):
    """How many heaps of the box a, a, c are as they are when turned, by MacMahon's product for these."""
    product = Fraction(1)
    for i in range(1, a + 1):
        product *= Fraction(2 * i + c - 1, 2 * i - 1)
        for j in range(i + 1, a + 1):
            product *= Fraction(i + j + c - 1, i + j - 1)
    return int(product)


def complementary(size):
    """How many heaps of the box are as they are when filled up, by Stanley's product."""
    odd = [side for side in size if side % 2 == 1]
    even = [side for side in size if side % 2 == 0]
    if len(odd) == 3:
        return 0
    halves = [side // 2 for side in odd + even]
    first, second = list(halves), list(halves)
    if odd:
        first[0] += 1
    if len(odd) == 2:
        second[1] += 1
    return macmahon(*first) * macmahon(*second)


class AlikeTest(unittest.TestCase):
    def test_written_out(self):
        known = {
            (1, 1, 1): [2, 0, 2], (2, 2, 2): [10, 4, 5], (3, 3, 3): [112, 0, 20], (3, 3, 4): [294, 36, 0],
            (1, 1, 2): [3, 1, 0], (1, 2, 3): [0, 2, 0], (2, 1, 1): [0, 1, 0],
        }
        for size, counts in known.items():
            self.assertEqual(ask(("box", *size), ("alike",))[1], counts, size)

    def test_at_the_beginning(self):
        self.assertEqual(ask(("alike",), ("put", 1, 1), ("alike",), ("rank",)), [[2, 0, 2], [1], [2, 0, 2], [1]])

    def test_every_box(self):
        for size in SIZES:
            self.assertEqual(ask(("box", *size), ("alike",))[1], model_alike(size), size)

    def test_every_box_by_the_products(self):
        cyclic = {1: 2, 2: 5, 3: 20}
        for size in SIZES:
            a, b, c = size
            turned = symmetric(a, c) if a == b else 0
            laid = cyclic[a] if a == b == c else 0
            self.assertEqual(ask(("box", *size), ("alike",))[1], [turned, complementary(size), laid], size)

    def test_none_where_the_sides_differ(self):
        for size in SIZES:
            a, b, c = size
            counts = ask(("box", *size), ("alike",))[1]
            self.assertEqual(counts[0] == 0, a != b, size)
            self.assertEqual(counts[2] == 0, not a == b == c, size)

    def test_as_turn_fill_and_lay_say_heap_by_heap(self):
        for size in ((1, 1, 1), (2, 2, 1), (2, 2, 2), (1, 2, 3), (2, 3, 2), (3, 3, 2), (3, 3, 3)):
            heaps = [list(heights) for heights in model_heaps(*size)]
            counts = []
            for name, there in (("turn", size[0] == size[1]), ("fill", True), ("lay", len(set(size)) == 1)):
                # Where it's there the box stays the same, so that one box is enough for all heaps.
                groups = [[("heap", heights), (name,)] for heights in heaps] if there else []
                found = ask_many([("box", *size)], groups)
                counts.append(len([heights for heights, part in zip(heaps, found) if part[1] == heights]))
            self.assertEqual(ask(("box", *size), ("alike",))[1], counts, size)

    def test_asks_the_box_alone_and_changes_nothing(self):
        for size in SIZES:
            count = len(model_heaps(*size))
            for n in (0, count // 2, count - 1):
                begin = (("box", *size), ("nth", n))
                parts = ask(*begin, ("alike",), ("alike",), *LOOK)
                self.assertEqual(parts[2:4], [model_alike(size)] * 2, (size, n))
                self.assertEqual(parts[4:], by_model(*begin, *LOOK)[2:], (size, n))

    def test_of_a_box_that_is_turned_or_laid(self):
        self.assertEqual(ask(("box", 2, 3, 2), ("alike",), ("lay",), ("alike",), ("lay",), ("alike",))[1::2],
                         [model_alike((2, 3, 2)), model_alike((3, 2, 2)), model_alike((2, 2, 3))])
        self.assertEqual(ask(("box", 1, 3, 4), ("turn",), ("alike",))[2], model_alike((3, 1, 4)))


if __name__ == "__main__":
    unittest.main()
