import unittest

from support import LARGEST, SIZES, ask, last, macmahon


class BoxTest(unittest.TestCase):
    def test_known_counts(self):
        known = {
            (1, 1, 1): 2, (1, 1, 4): 5, (1, 2, 1): 3, (2, 1, 1): 3, (2, 2, 1): 6, (2, 2, 2): 20,
            (3, 3, 1): 20, (3, 3, 2): 175, (3, 3, 3): 980, (3, 3, 4): 4116, (1, 3, 4): 35, (3, 1, 4): 35,
        }
        for size, count in known.items():
            self.assertEqual(ask(("box", *size)), [[count]], size)

    def test_every_box_has_as_many_heaps_as_the_product_says(self):
        for size in SIZES:
            self.assertEqual(ask(("box", *size)), [[macmahon(*size)]], size)

    def test_each_side_by_itself(self):
        for side, most in ((0, 3), (1, 3), (2, 4)):
            for number in (0, 1, 3, 4, 5, LARGEST):
                size = [2, 2, 2]
                size[side] = number
                answer = [macmahon(*size)] if 1 <= number <= most else [-1]
                self.assertEqual(ask(("box", *size)), [answer], size)

    def test_several_sides_wrong_are_one_refusal(self):
        for size in ((0, 0, 0), (4, 4, 5), (LARGEST, LARGEST, LARGEST), (0, 4, 1), (1, 0, 5)):
            self.assertEqual(ask(("box", *size)), [[-1]], size)

    def test_at_the_beginning_the_box_is_one_cube_and_empty(self):
        self.assertEqual(ask(("rank",)), [[0]])
        self.assertEqual(ask(("corners",)), [[1, 1, 1, 0]])
        self.assertEqual(ask(("volume", 0), ("volume", 1), ("volume", 2)), [[1], [1], [0]])
        self.assertEqual(ask(("nth", 1), ("nth", 2), ("nth", 0)), [[1], [-2], [0]])
        self.assertEqual(ask(("put", 1, 1), ("put", 1, 1), ("take", 1, 1), ("take", 1, 1)), [[1], [-6], [0], [-6]])
        self.assertEqual(ask(("put", 1, 2), ("put", 2, 1), ("take", 1, 2), ("take", 2, 1)), [[-1]] * 4)
        self.assertEqual(ask(("heap", [1]), ("heap", [2]), ("heap", [0, 0]), ("rank",)), [[1], [-1], [-1], [1]])

    def test_a_taken_box_has_the_empty_heap(self):
        for size in SIZES:
            places = size[0] * size[1]
            full = ("heap", [size[2]] * places)
            parts = ask(("box", *size), full, ("box", *size), ("rank",), ("corners",))
            self.assertEqual(parts[1:], [[size[2] * places], parts[0], [0], [1, 1, 1, 0]], size)

    def test_a_box_of_another_size_takes_the_place_of_the_one_before(self):
        parts = ask(("box", 3, 3, 4), ("nth", 4000), ("box", 1, 2, 3), ("nth", 9), ("nth", 10), ("put", 2, 1))
        self.assertEqual(parts[2:], [[10], [3, 3], [-2], [-1]])

    def test_a_refused_box_leaves_box_and_heap(self):
        begin = (("box", 2, 3, 4), ("heap", [4, 2, 0, 3, 1, 0]))
        look = (("rank",), ("corners",), ("volume", 12), ("nth", 489), ("nth", 490))
        before = ask(*begin, *look)[2:]
        for size in ((0, 1, 1), (1, 0, 1), (1, 1, 0), (4, 1, 1), (1, 4, 1), (1, 1, 5), (LARGEST, 1, 1)):
            after = ask(*begin, ("box", *size), *look)
            self.assertEqual(after[2], [-1], size)
            self.assertEqual(after[3:], before, size)

    def test_a_refused_box_leaves_the_one_of_the_beginning(self):
        self.assertEqual(last(("box", 4, 1, 1), ("put", 1, 1), ("box", 1, 1, 5), ("rank",)), [1])


if __name__ == "__main__":
    unittest.main()
