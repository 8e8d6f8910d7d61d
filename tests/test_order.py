import unittest

from support import LARGEST, SIZES, ask, ask_many, model_heaps


class OrderTest(unittest.TestCase):
    def test_written_out(self):
        numbers = [("nth", n) for n in range(6)]
        self.assertEqual(ask(("box", 1, 1, 4), *numbers)[1:], [[0], [1], [2], [3], [4], [-2]])
        self.assertEqual(ask(("box", 2, 2, 1), *numbers)[1:],
                         [[0, 0, 0, 0], [1, 0, 0, 0], [1, 0, 1, 0], [1, 1, 0, 0], [1, 1, 1, 0], [1, 1, 1, 1]])
        self.assertEqual(ask(("box", 1, 2, 2), *numbers)[1:], [[0, 0], [1, 0], [1, 1], [2, 0], [2, 1], [2, 2]])

    def test_every_number_of_every_box(self):
        for size in SIZES:
            heaps = model_heaps(*size)
            found = ask_many([("box", *size)], [[("nth", n), ("rank",)] for n in range(len(heaps))])
            self.assertEqual(len(found), ask(("box", *size))[0][0], size)
            for n, answer in enumerate(found):
                self.assertEqual(answer, [list(heaps[n]), [n]], (size, n))

    def test_the_first_and_the_last(self):
        for size in SIZES:
            places = size[0] * size[1]
            count = ask(("box", *size))[0][0]
            parts = ask(("box", *size), ("nth", count - 1), ("rank",), ("nth", 0), ("rank",))
            self.assertEqual(parts[1:], [[size[2]] * places, [count - 1], [0] * places, [0]], size)

    def test_numbers_beyond_are_refused_and_change_nothing(self):
        for size in SIZES:
            count = ask(("box", *size))[0][0]
            begin = (("box", *size), ("nth", count // 2))
            look = (("rank",), ("corners",), ("volume", 1), ("nth", count - 1))
            before = ask(*begin, *look)[2:]
            for n in (count, count + 1, LARGEST):
                after = ask(*begin, ("nth", n), *look)
                self.assertEqual(after[2], [-2], (size, n))
                self.assertEqual(after[3:], before, (size, n))

    def test_rank_changes_nothing(self):
        parts = ask(("box", 3, 3, 4), ("nth", 2000), ("rank",), ("rank",), ("corners",), ("rank",))
        self.assertEqual([parts[2], parts[3], parts[5]], [[2000]] * 3)

    def test_a_cube_after_nth_does_not_change_the_heap_of_that_number(self):
        parts = ask(("box", 2, 2, 2), ("nth", 7), ("put", 1, 1), ("take", 1, 1), ("put", 1, 2), ("nth", 7), ("rank",))
        self.assertEqual(parts[1], parts[5])
        self.assertEqual(parts[6], [7])


if __name__ == "__main__":
    unittest.main()
