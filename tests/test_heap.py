import itertools
import unittest

from support import LARGEST, SIZES, ask, ask_many, model_heaps, model_index, some_heaps


class HeapTest(unittest.TestCase):
    def refused(self, size, heights):
        self.assertEqual(ask(("box", *size), ("heap", heights))[1], [-1], (size, heights))

    def test_ordinary(self):
        parts = ask(("box", 3, 3, 4), ("heap", [4, 3, 1, 3, 3, 0, 1, 0, 0]), ("heap", [4] * 9), ("heap", [0] * 9))
        self.assertEqual(parts[1:], [[15], [36], [0]])
        self.assertEqual(ask(("box", 2, 3, 3), ("heap", [3, 2, 1, 3, 0, 0]))[1], [9])
        self.assertEqual(ask(("box", 3, 2, 3), ("heap", [3, 2, 2, 2, 1, 0]))[1], [10])

    def test_every_row_of_heights_in_small_boxes(self):
        for size in ((1, 1, 2), (1, 3, 2), (3, 1, 2), (2, 2, 2), (2, 3, 1), (3, 2, 1)):
            rows = list(itertools.product(range(size[2] + 2), repeat=size[0] * size[1]))
            found = ask_many([("box", *size)], [[("heap", list(row)), ("rank",)] for row in rows])
            index = model_index(*size)
            for row, answer in zip(rows, found):
                if row in index:
                    self.assertEqual(answer, [[sum(row)], [index[row]]], (size, row))
                else:
                    self.assertEqual(answer[0], [-1], (size, row))

    def test_heaps_of_every_box(self):
        for size in SIZES:
            heaps = some_heaps(size)
            found = ask_many([("box", *size)], [[("heap", heights), ("rank",)] for heights in heaps])
            for heights, answer in zip(heaps, found):
                self.assertEqual(answer, [[sum(heights)], [model_index(*size)[tuple(heights)]]], (size, heights))

    def test_how_many_heights(self):
        for size in SIZES:
            places = size[0] * size[1]
            found = ask_many([("box", *size)], [[("heap", [0] * count)] for count in range(15)])
            self.assertEqual(found, [[[0]] if count == places else [[-1]] for count in range(15)], size)

    def test_right_beginning_with_too_many_or_too_few(self):
        self.refused((2, 2, 2), [2, 1, 1, 0, 0])
        self.refused((2, 2, 2), [2, 1, 1])
        self.refused((2, 2, 2), [])
        self.refused((3, 3, 4), [4, 3, 2, 3, 2, 1, 2, 1, 0, 0, 0, 0, 0, 0])
        self.refused((3, 3, 4), [LARGEST] * 14)

    def test_too_high(self):
        for size in SIZES:
            places = size[0] * size[1]
            for height in (size[2] + 1, LARGEST):
                self.refused(size, [height] + [0] * (places - 1))
                self.refused(size, [height] * places)
                self.refused(size, [size[2]] * (places - 1) + [height])

    def test_above_the_one_before_in_its_row_alone(self):
        self.refused((1, 3, 4), [2, 3, 0])
        self.refused((1, 3, 4), [2, 1, 2])
        self.refused((2, 3, 4), [4, 4, 4, 1, 2, 0])
        self.refused((3, 3, 4), [4, 4, 4, 4, 4, 4, 2, 2, 3])

    def test_above_the_one_before_in_its_column_alone(self):
        self.refused((3, 1, 4), [2, 3, 0])
        self.refused((3, 1, 4), [2, 1, 2])
        self.refused((2, 3, 4), [4, 1, 0, 3, 2, 0])
        self.refused((3, 3, 4), [4, 4, 2, 4, 4, 2, 4, 4, 3])

    def test_a_new_row_is_held_by_its_column_not_by_the_end_of_the_row_before(self):
        self.assertEqual(ask(("box", 2, 2, 4), ("heap", [4, 0, 4, 0]), ("rank",))[1:],
                         [[8], [model_heaps(2, 2, 4).index((4, 0, 4, 0))]])

    def test_a_refused_heap_changes_nothing(self):
        begin = (("box", 2, 3, 4), ("heap", [4, 2, 0, 3, 1, 0]))
        look = (("rank",), ("corners",), ("volume", 7), ("nth", 489))
        before = ask(*begin, *look)[2:]
        for heights in ([], [0] * 5, [0] * 7, [0] * 14, [5, 0, 0, 0, 0, 0], [1, 2, 0, 0, 0, 0], [1, 0, 0, 2, 0, 0]):
            after = ask(*begin, ("heap", heights), *look)
            self.assertEqual(after[2], [-1], heights)
            self.assertEqual(after[3:], before, heights)

    def test_the_box_stays_when_a_heap_is_taken(self):
        parts = ask(("box", 2, 2, 3), ("heap", [1, 1, 1, 1]), ("nth", 49), ("nth", 50))
        self.assertEqual(parts, [[50], [4], [3, 3, 3, 3], [-2]])


if __name__ == "__main__":
    unittest.main()
