import contextlib
import io
import random
import unittest

import cubeheaps.boxes
from support import (LARGEST, SIZES, Untouched, ask, model_corners, model_heaps, model_index, model_move, taken_apart,
                     written)

ONE_OF_EACH = [
    ("box", 2, 2, 2), ("heap", [2, 1, 1, 0]), ("nth", 5), ("rank",), ("put", 1, 1), ("take", 1, 1), ("corners",),
    ("volume", 3),
]


class Model:
    """The calls told once more, by tables of all heaps."""

    def __init__(self):
        self.size = (1, 1, 1)
        self.heights = [0]

    def box(self, a, b, c):
        if (a, b, c) not in SIZES:
            return [-1]
        self.size = (a, b, c)
        self.heights = [0] * (a * b)
        return [len(model_heaps(a, b, c))]

    def heap(self, heights):
        if tuple(heights) not in model_index(*self.size):
            return [-1]
        self.heights = list(heights)
        return [sum(heights)]

    def nth(self, n):
        heaps = model_heaps(*self.size)
        if n >= len(heaps):
            return [-2]
        self.heights = list(heaps[n])
        return list(heaps[n])

    def rank(self):
        return [model_index(*self.size)[tuple(self.heights)]]

    def move(self, i, j, step):
        if i not in range(1, self.size[0] + 1) or j not in range(1, self.size[1] + 1):
            return [-1]
        then = model_move(self.size, self.heights, i, j, step)
        if then is None:
            return [-6]
        self.heights = then
        return [sum(then)]

    def put(self, i, j):
        return self.move(i, j, 1)

    def take(self, i, j):
        return self.move(i, j, -1)

    def corners(self):
        return model_corners(self.size, self.heights)

    def volume(self, k):
        return [len([heights for heights in model_heaps(*self.size) if sum(heights) == k])]


def some_call(chance, model):
    """A call that is often taken in the model's box, and sometimes refused."""
    name = chance.choice(["heap", "nth", "rank", "put", "put", "put", "take", "take", "corners", "volume"])
    if chance.random() < 0.1:
        return ("box", chance.randint(0, 3), chance.randint(1, 4), chance.randint(1, 5))
    if name == "heap":
        heights = list(chance.choice(model_heaps(*model.size)))
        if chance.random() < 0.5:
            heights[chance.randrange(len(heights))] = chance.randint(0, 5)
        return (name, heights[:-1] if chance.random() < 0.1 else heights)
    if name == "nth":
        return (name, chance.randrange(len(model_heaps(*model.size)) + 3))
    if name in ("put", "take"):
        return (name, chance.randint(0, 4), chance.randint(0, 4)) if chance.random() < 0.2 else (
            name, chance.randint(1, model.size[0]), chance.randint(1, model.size[1]))
    if name == "volume":
        return (name, chance.randrange(40))
    return (name,)


class ListsTest(unittest.TestCase):
    def test_counts_and_numbers_one_behind_another(self):
        self.assertEqual(written(ONE_OF_EACH),
                         [0, 2, 2, 2, 1, 4, 2, 1, 1, 0, 2, 5, 3, 4, 1, 1, 5, 1, 1, 6, 7, 3])
        self.assertEqual(cubeheaps.boxes.answers(written(ONE_OF_EACH)),
                         [1, 20, 1, 4, 4, 1, 1, 1, 1, 1, 5, 1, 5, 1, 4, 6, 1, 1, 1, 1, 2, 2, 1, 3])
        self.assertEqual(cubeheaps.boxes.answers([0, 4, 2, 2, 1, 0, 2, 2, 4, 1, 2, 5, 1, 1, 6]),
                         [1, -1, 1, -1, 1, -2, 1, -1, 1, -6, 4, 1, 1, 1, 0])

    def by_model(self, calls):
        model = Model()
        answered = []
        for call in calls:
            part = getattr(model, call[0])(*call[1:])
            answered.extend([len(part)] + part)
        return answered

    def test_lists_of_many_calls_mixed_with_refusals(self):
        chance = random.Random(6)
        for count in [40] * 60 + list(range(1, 40)):
            model = Model()
            calls = [("box", *chance.choice(SIZES))]
            parts = [model.box(*calls[0][1:])]
            while len(calls) < count:
                calls.append(some_call(chance, model))
                parts.append(getattr(model, calls[-1][0])(*calls[-1][1:]))
            self.assertEqual(ask(*calls), parts, calls)

    def test_forty_of_each_call(self):
        for call in ONE_OF_EACH:
            self.assertEqual(cubeheaps.boxes.answers(written([call] * 40)), self.by_model([call] * 40), call)

    def test_the_longest_list(self):
        calls = [("heap", [LARGEST] * 14)] * 40
        self.assertEqual(len(written(calls)), 640)
        self.assertEqual(ask(*calls), [[-1]] * 40)

    def test_a_row_may_hold_the_numbers_of_other_calls(self):
        parts = ask(("heap", [0, 2, 2, 2]), ("heap", []), ("heap", [6]), ("put", 1, 1), ("heap", [0]), ("rank",))
        self.assertEqual(parts, [[-1], [-1], [-1], [1], [0], [0]])


class HandedInTest(unittest.TestCase):
    def test_the_list_is_the_same_afterwards_and_in_between(self):
        calls = written(ONE_OF_EACH * 5)
        handed = Untouched(calls)
        cubeheaps.boxes.answers(handed)
        self.assertEqual(handed, calls)

    def test_a_plain_list_is_the_same_afterwards(self):
        calls = written(ONE_OF_EACH * 5)
        handed = list(calls)
        cubeheaps.boxes.answers(handed)
        self.assertEqual(handed, calls)

    def test_asked_twice_it_answers_alike(self):
        for calls in (ONE_OF_EACH, ONE_OF_EACH * 5, ONE_OF_EACH[::-1]):
            first = cubeheaps.boxes.answers(written(calls))
            again = cubeheaps.boxes.answers(written(calls))
            self.assertEqual(first, again)
            self.assertIsNot(first, again)

    def test_what_is_done_with_an_answer_does_not_come_back(self):
        calls = written([("box", 2, 2, 2), ("nth", 7), ("corners",)])
        first = cubeheaps.boxes.answers(calls)
        kept = list(first)
        first.clear()
        self.assertEqual(cubeheaps.boxes.answers(calls), kept)

    def test_a_second_list_begins_with_a_new_box(self):
        look = (("rank",), ("corners",), ("volume", 1), ("nth", 2))
        before = ask(*look)
        ask(("box", 3, 3, 4), ("nth", 4115))
        self.assertEqual(ask(*look), before)
        ask(("put", 1, 1))
        self.assertEqual(ask(*look), before)

    def test_answers_are_ints_and_never_bools(self):
        for call in ONE_OF_EACH:
            taken_apart(cubeheaps.boxes.answers(written([("box", 1, 1, 1), call])), 2)

    def test_nothing_is_printed(self):
        out = io.StringIO()
        with contextlib.redirect_stdout(out), contextlib.redirect_stderr(out):
            cubeheaps.boxes.answers(written(ONE_OF_EACH + [("box", 0, 0, 0), ("heap", [])]))
        self.assertEqual(out.getvalue(), "")


if __name__ == "__main__":
    unittest.main()
