import unittest

from support import (LARGEST, LOOK, SIZES, ask, ask_many, by_model, model_distances, model_heaps, some_heaps,
                     wrong_heights)


class ApartTest(unittest.TestCase):
    def apart(self, size, heights, others):
        """How far each of the others is from the heap with these heights."""
        begin = [("box", *size), ("heap", heights)]
        return [part[0] for part in ask_many(begin, [[("apart", other)] for other in others])]

    def test_written_out(self):
        others = [[0, 0, 0, 0], [2, 2, 2, 2], [1, 1, 1, 1], [2, 1, 1, 0], [2, 0, 2, 0], [2, 2, 0, 0]]
        self.assertEqual(self.apart((2, 2, 2), [2, 1, 1, 0], others), [[4], [4], [2], [0], [2], [2]])
        self.assertEqual(self.apart((1, 2, 3), [3, 0], [[2, 2], [3, 3], [0, 0], [1, 1]]), [[3], [3], [3], [3]])
        self.assertEqual(self.apart((3, 1, 4), [4, 2, 0], [[3, 3, 3], [1, 1, 1]]), [[5], [5]])
        self.assertEqual(self.apart((3, 3, 4), [4, 3, 2, 3, 2, 1, 2, 1, 0], [[2] * 9, [4] * 9]), [[8], [18]])

    def test_at_the_beginning(self):
        parts = ask(("apart", [1]), ("apart", [0]), ("apart", [2]), ("apart", []), ("apart", [0, 0]), ("rank",))
        self.assertEqual(parts, [[1], [0], [-1], [-1], [-1], [0]])

    def test_every_two_heaps_of_small_boxes_by_going_move_by_move(self):
        for size in ((1, 1, 1), (1, 1, 4), (1, 3, 2), (3, 1, 2), (2, 2, 2), (2, 3, 1), (3, 2, 1), (1, 2, 3), (2, 1, 3)):
            heaps = [list(heights) for heights in model_heaps(*size)]
            for heights in heaps:
                distances = model_distances(size, heights)
                expected = [[distances[tuple(other)]] for other in heaps]
                self.assertEqual(self.apart(size, heights, heaps), expected, (size, heights))

    def test_large_boxes_by_going_move_by_move(self):
        for size in ((3, 3, 4), (3, 3, 3), (2, 3, 4), (3, 2, 4), (3, 1, 4), (1, 2, 4)):
            others = some_heaps(size)
            for heights in some_heaps(size, 4):
                distances = model_distances(size, heights)
                expected = [[distances[tuple(other)]] for other in others]
                self.assertEqual(self.apart(size, heights, others), expected, (size, heights))

    def test_nothing_from_the_heap_itself(self):
        for size in SIZES:
            groups = [[("heap", heights), ("apart", heights)] for heights in some_heaps(size, 12)]
            for found in ask_many([("box", *size)], groups):
                self.assertEqual(found[1], [0], size)

    def test_all_cubes_from_the_empty_heap_to_the_full_one_and_back(self):
        for size in SIZES:
            a, b, c = size
            empty, full = [0] * (a * b), [c] * (a * b)
            parts = ask(("box", *size), ("apart", full), ("heap", full), ("apart", empty))
            self.assertEqual([parts[1], parts[3]], [[a * b * c]] * 2, size)

    def test_refused(self):
        for size in SIZES:
            heights = [1] + [0] * (size[0] * size[1] - 1)
            wrong = wrong_heights(size)
            self.assertEqual(self.apart(size, heights, wrong), [[-1]] * len(wrong), size)
        self.assertEqual(self.apart((3, 3, 4), [0] * 9, [[LARGEST] * 9, [LARGEST] * 14]), [[-1], [-1]])

    def test_a_refusal_changes_nothing(self):
        for size in ((2, 3, 4), (3, 3, 4), (1, 2, 3), (3, 1, 1)):
            begin = (("box", *size), ("nth", len(model_heaps(*size)) // 2))
            look = by_model(*begin, *LOOK)[2:]
            for wrong in wrong_heights(size):
                self.assertEqual(ask(*begin, ("apart", wrong), *LOOK)[2:], [[-1]] + look, (size, wrong))

    def test_heap_and_box_stay_as_they_were(self):
        for size in SIZES:
            begin = (("box", *size), ("nth", len(model_heaps(*size)) // 2))
            other = list(model_heaps(*size)[-1])
            asked = ask(*begin, ("apart", other), ("apart", other), *LOOK)
            self.assertEqual(asked[2], asked[3], size)
            self.assertEqual(asked[4:], by_model(*begin, *LOOK)[2:], size)


if __name__ == "__main__":
    unittest.main()
