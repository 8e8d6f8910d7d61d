import unittest

from support import LARGEST, SIZES, ask, ask_many, model_heaps


class VolumeTest(unittest.TestCase):
    def volumes(self, size, ks):
        return [part[0][0] for part in ask_many([("box", *size)], [[("volume", k)] for k in ks])]

    def test_written_out(self):
        self.assertEqual(self.volumes((1, 1, 4), range(6)), [1, 1, 1, 1, 1, 0])
        self.assertEqual(self.volumes((2, 2, 1), range(5)), [1, 1, 2, 1, 1])
        self.assertEqual(self.volumes((2, 2, 2), range(9)), [1, 1, 3, 3, 4, 3, 3, 1, 1])
        # Where the box does not hold them back there are as many as plane partitions of k.
        self.assertEqual(self.volumes((3, 3, 4), range(4)), [1, 1, 3, 6])

    def test_every_number_of_cubes_of_every_box(self):
        for size in SIZES:
            cubes = size[0] * size[1] * size[2]
            volumes = [sum(heights) for heights in model_heaps(*size)]
            found = self.volumes(size, range(cubes + 3))
            self.assertEqual(found, [volumes.count(k) for k in range(cubes + 3)], size)
            self.assertEqual([sum(found)], ask(("box", *size))[0], size)
            # Filled up, a heap of k cubes has all the others, so there are as many of these.
            self.assertEqual(found[:cubes + 1], found[cubes::-1], size)

    def test_edges(self):
        for size in SIZES:
            cubes = size[0] * size[1] * size[2]
            self.assertEqual(self.volumes(size, [0, cubes, cubes + 1, LARGEST]), [1, 1, 0, 0], size)

    def test_asks_the_box_not_the_heap_and_changes_nothing(self):
        parts = ask(("box", 2, 2, 2), ("volume", 4), ("nth", 13), ("volume", 4), ("rank",), ("volume", LARGEST), ("rank",))
        self.assertEqual([parts[1], parts[3], parts[4], parts[5], parts[6]], [[4], [4], [13], [0], [13]])


if __name__ == "__main__":
    unittest.main()
