import unittest

from support import LARGEST, LOOK, SIZES, ask, ask_many, by_model, model_heaps, model_index, some_heaps, wrong_heights

BOTH = (("over", max), ("under", min))


class OverAndUnderTest(unittest.TestCase):
    def test_written_out(self):
        begin = (("box", 2, 2, 2), ("heap", [2, 0, 2, 0]))
        self.assertEqual(ask(*begin, ("over", [1, 1, 1, 1]), ("rank",))[2:], [[2, 1, 2, 1], [13]])
        self.assertEqual(ask(*begin, ("under", [1, 1, 1, 1]), ("rank",))[2:], [[1, 0, 1, 0], [2]])
        begin = (("box", 2, 3, 4), ("heap", [4, 2, 0, 3, 1, 0]))
        self.assertEqual(ask(*begin, ("over", [3, 3, 1, 1, 1, 1]))[2], [4, 3, 1, 3, 1, 1])
        self.assertEqual(ask(*begin, ("under", [3, 3, 1, 1, 1, 1]))[2], [3, 2, 0, 1, 1, 0])
        begin = (("box", 3, 3, 4), ("heap", [4, 4, 0, 4, 1, 0, 1, 0, 0]))
        self.assertEqual(ask(*begin, ("over", [2] * 9))[2], [4, 4, 2, 4, 2, 2, 2, 2, 2])
        self.assertEqual(ask(*begin, ("under", [2] * 9))[2], [2, 2, 0, 2, 1, 0, 1, 0, 0])

    def test_at_the_beginning(self):
        self.assertEqual(ask(("over", [1]), ("rank",), ("under", [1]), ("under", [0]), ("rank",), ("over", [0])),
                         [[1], [1], [1], [0], [0], [0]])
        for name, choose in BOTH:
            self.assertEqual(ask((name, []), (name, [2]), (name, [0, 0]), ("rank",)), [[-1], [-1], [-1], [0]])

    def pairs(self, size, heaps):
        """The answer is the higher (the lower) place by place, and the heap then."""
        for name, choose in BOTH:
            cases = [(own, other) for own in heaps for other in heaps]
            groups = [[("heap", own), (name, other), ("rank",), ("apart", own)] for own, other in cases]
            for (own, other), found in zip(cases, ask_many([("box", *size)], groups)):
                then = [choose(pair) for pair in zip(own, other)]
                expected = [then, [model_index(*size)[tuple(then)]], [abs(sum(then) - sum(own))]]
                self.assertEqual(found[1:], expected, (size, name, own, other))

    def test_every_two_heaps_of_small_boxes(self):
        for size in ((1, 1, 1), (1, 1, 4), (1, 3, 2), (3, 1, 2), (2, 2, 2), (2, 3, 1), (3, 2, 1), (1, 2, 3), (2, 1, 3)):
            self.pairs(size, [list(heights) for heights in model_heaps(*size)])

    def test_heaps_of_every_box(self):
        for size in SIZES:
            self.pairs(size, some_heaps(size, 8))
        self.pairs((3, 3, 4), some_heaps((3, 3, 4), 30))

    def test_the_empty_and_the_full_heap(self):
        for size in SIZES:
            empty, full = [0] * (size[0] * size[1]), [size[2]] * (size[0] * size[1])
            for heights in some_heaps(size, 6):
                parts = ask(("box", *size), ("heap", heights), ("over", empty), ("under", full), ("over", full),
                            ("under", heights), ("under", empty), ("over", heights), ("over", heights))
                self.assertEqual(parts[2:], [heights, heights, full, heights, empty, heights, heights], size)

    def test_the_answer_is_the_heap_then_and_the_box_stays(self):
        for size in SIZES:
            heaps = some_heaps(size, 4)
            for name, choose in BOTH:
                for other in heaps:
                    calls = (("box", *size), ("heap", heaps[len(heaps) // 2]), (name, other), *LOOK)
                    self.assertEqual(ask(*calls), by_model(*calls), calls[:3])

    def test_a_cube_afterwards(self):
        parts = ask(("box", 2, 2, 3), ("over", [2, 1, 1, 0]), ("put", 1, 1), ("over", [0, 0, 0, 0]), ("take", 2, 1),
                    ("under", [3, 3, 3, 3]), ("corners",))
        self.assertEqual(parts[1:], [[2, 1, 1, 0], [5], [3, 1, 1, 0], [4], [3, 1, 0, 0], [2, 1, 2, 2, 1, 2, 1, 1, 1, 2]])

    def test_refused(self):
        for size in SIZES:
            wrong = wrong_heights(size)
            for name, choose in BOTH:
                groups = [[(name, heights), ("rank",)] for heights in wrong]
                found = ask_many([("box", *size), ("nth", 1)], groups)
                self.assertEqual(found, [[[-1], [1]]] * len(wrong), (size, name))

    def test_a_refusal_changes_nothing(self):
        for size in ((2, 3, 4), (3, 3, 4), (1, 2, 3), (3, 1, 1)):
            begin = (("box", *size), ("nth", len(model_heaps(*size)) // 2))
            look = by_model(*begin, *LOOK)[2:]
            for wrong in wrong_heights(size) + [[LARGEST] * 14]:
                for name, choose in BOTH:
                    self.assertEqual(ask(*begin, (name, wrong), *LOOK)[2:], [[-1]] + look, (size, name, wrong))


if __name__ == "__main__":
    unittest.main()
