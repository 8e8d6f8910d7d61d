import unittest

from support import LARGEST, LOOK, SIZES, ask, ask_many, by_model, model_heaps, model_path, some_heaps


class PathTest(unittest.TestCase):
    def paths(self, size, heights):
        """The path of each level, from the first."""
        levels = [("path", k) for k in range(1, size[2] + 1)]
        return ask(("box", *size), ("heap", heights), *levels)[2:]

    def test_written_out(self):
        self.assertEqual(self.paths((2, 3, 3), [3, 2, 1, 3, 1, 0]),
                         [[0, 0, 1, 0, 1], [0, 1, 0, 1, 0], [0, 1, 1, 0, 0]])
        self.assertEqual(self.paths((3, 2, 2), [2, 1, 1, 1, 1, 0]), [[0, 1, 0, 1, 1], [1, 1, 0, 1, 0]])
        self.assertEqual(self.paths((3, 3, 4), [4, 3, 2, 3, 2, 1, 2, 1, 0]),
                         [[0, 0, 1, 0, 1, 1], [0, 1, 0, 1, 0, 1], [1, 0, 1, 0, 1, 0], [1, 1, 0, 1, 0, 0]])

    def test_at_the_beginning(self):
        self.assertEqual(ask(("path", 1), ("path", 0), ("path", 2), ("put", 1, 1), ("path", 1)),
                         [[1, 0], [-1], [-1], [1], [0, 1]])

    def test_every_level_of_every_heap_of_middling_boxes(self):
        for size in SIZES:
            heaps = model_heaps(*size)
            if len(heaps) > 200:
                continue
            levels = range(1, size[2] + 1)
            groups = [[("nth", n)] + [("path", k) for k in levels] for n in range(len(heaps))]
            for heights, found in zip(heaps, ask_many([("box", *size)], groups)):
                self.assertEqual(found[1:], [model_path(size, heights, k) for k in levels], (size, heights))

    def test_heaps_of_every_box(self):
        for size in SIZES:
            for heights in some_heaps(size):
                paths = self.paths(size, heights)
                self.assertEqual(paths, [model_path(size, heights, k + 1) for k in range(size[2])], (size, heights))

    def test_as_many_steps_as_rows_and_columns_together(self):
        for size in SIZES:
            for heights in some_heaps(size, 12):
                for path in self.paths(size, heights):
                    self.assertEqual((path.count(1), path.count(0)), size[:2], (size, heights))
                    self.assertEqual(len(path), size[0] + size[1], (size, heights))

    def test_the_paths_tell_the_heap(self):
        for size in SIZES:
            for heights in some_heaps(size, 12):
                rows = [[0] * size[1] for row in range(size[0])]
                for path in self.paths(size, heights):
                    ups = [at for at, step in enumerate(path) if step == 1]
                    for count, at in enumerate(ups):
                        row = rows[size[0] - 1 - count]
                        for column in range(at - count):
                            row[column] += 1
                self.assertEqual(sum(rows, []), heights, size)

    def test_the_paths_do_not_cross(self):
        for size in SIZES:
            for heights in some_heaps(size, 12):
                paths = self.paths(size, heights)
                for lower, upper in zip(paths, paths[1:]):
                    for at in range(len(lower)):
                        self.assertLessEqual(sum(lower[:at]), sum(upper[:at]), (size, heights))

    def test_the_empty_and_the_full_heap(self):
        for size in SIZES:
            a, b, c = size
            self.assertEqual(self.paths(size, [0] * (a * b)), [[1] * a + [0] * b] * c, size)
            self.assertEqual(self.paths(size, [c] * (a * b)), [[0] * b + [1] * a] * c, size)

    def test_one_row_and_one_column(self):
        self.assertEqual(self.paths((1, 3, 4), [4, 2, 1]), [[0, 0, 0, 1], [0, 0, 1, 0], [0, 1, 0, 0], [0, 1, 0, 0]])
        self.assertEqual(self.paths((3, 1, 4), [4, 2, 1]), [[0, 1, 1, 1], [1, 0, 1, 1], [1, 1, 0, 1], [1, 1, 0, 1]])
        self.assertEqual(self.paths((1, 3, 1), [0, 0, 0]), [[1, 0, 0, 0]])
        self.assertEqual(self.paths((3, 1, 1), [1, 1, 1]), [[0, 1, 1, 1]])
        self.assertEqual(self.paths((1, 1, 2), [1]), [[0, 1], [1, 0]])

    def test_the_edges_of_the_levels(self):
        for size in SIZES:
            a, b, c = size
            levels = (0, 1, c, c + 1, c + 2, LARGEST)
            groups = [[("path", k), ("rank",)] for k in levels]
            for k, found in zip(levels, ask_many([("box", *size), ("nth", 1)], groups)):
                heights = model_heaps(*size)[1]
                steps = model_path(size, heights, k) if k in range(1, c + 1) else [-1]
                self.assertEqual(found, [steps, [1]], (size, k))

    def test_heap_and_box_stay_as_they_were(self):
        for size in SIZES:
            begin = (("box", *size), ("nth", len(model_heaps(*size)) // 2))
            look = by_model(*begin, *LOOK)[2:]
            for k in (0, 1, size[2], size[2] + 1, LARGEST):
                self.assertEqual(ask(*begin, ("path", k), *LOOK)[3:], look, (size, k))


if __name__ == "__main__":
    unittest.main()
