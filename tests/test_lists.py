import contextlib
import io
import random
import unittest

import cubeheaps.boxes
from support import LARGEST, NUMBERS, SIZES, Model, Untouched, ask, by_model, model_heaps, taken_apart, written

ONE_OF_EACH = [
    ("box", 2, 2, 2), ("heap", [2, 1, 1, 0]), ("nth", 5), ("rank",), ("put", 1, 1), ("take", 1, 1), ("corners",),
    ("volume", 3), ("apart", [2, 2, 0, 0]), ("over", [2, 0, 0, 0]), ("under", [2, 1, 0, 0]), ("path", 1), ("turn",),
    ("fill",), ("lay",), ("alike",),
]


def some_heights(chance, model):
    """The heights of a heap in the model's box, or sometimes of none."""
    heights = list(chance.choice(model_heaps(*model.size)))
    if chance.random() < 0.3:
        heights[chance.randrange(len(heights))] = chance.choice([0, 1, 2, 3, 4, 5, LARGEST])
    if chance.random() < 0.1:
        return chance.choice([[], heights[:-1], heights + [0], [0] * 14])
    return heights


def some_call(chance, model, names):
    """A call that is often taken in the model's box, and sometimes refused."""
    name = chance.choice(names)
    if name == "box":
        return (name, chance.randint(0, 3), chance.randint(1, 4), chance.randint(1, 5))
    if name in ("heap", "apart", "over", "under"):
        return (name, some_heights(chance, model))
    if name == "nth":
        return (name, chance.randrange(len(model_heaps(*model.size)) + 3))
    if name in ("put", "take"):
        return (name, chance.randint(0, 4), chance.randint(0, 4)) if chance.random() < 0.2 else (
            name, chance.randint(1, model.size[0]), chance.randint(1, model.size[1]))
    if name == "volume":
        return (name, chance.randrange(40))
    if name == "path":
        return (name, chance.choice([0, 1, 2, 3, 4, 5, LARGEST]))
    return (name,)


class ListsTest(unittest.TestCase):
    def test_counts_and_numbers_one_behind_another(self):
        self.assertEqual(written(ONE_OF_EACH),
                         [0, 2, 2, 2, 1, 4, 2, 1, 1, 0, 2, 5, 3, 4, 1, 1, 5, 1, 1, 6, 7, 3,
                          8, 4, 2, 2, 0, 0, 9, 4, 2, 0, 0, 0, 10, 4, 2, 1, 0, 0, 11, 1, 12, 13, 14, 15])
        self.assertEqual(cubeheaps.boxes.answers(written(ONE_OF_EACH)),
                         [1, 20, 1, 4, 4, 1, 1, 1, 1, 1, 5, 1, 5, 1, 4, 6, 1, 1, 1, 1, 2, 2, 1, 3,
                          1, 4, 4, 2, 1, 1, 1, 4, 2, 1, 0, 0, 4, 1, 0, 0, 1, 4, 2, 0, 1, 0, 4, 2, 1, 2, 0,
                          4, 2, 2, 1, 0, 3, 10, 4, 5])
        self.assertEqual(cubeheaps.boxes.answers([0, 4, 2, 2, 1, 0, 2, 2, 4, 1, 2, 5, 1, 1, 6]),
                         [1, -1, 1, -1, 1, -2, 1, -1, 1, -6, 4, 1, 1, 1, 0])
        self.assertEqual(cubeheaps.boxes.answers([8, 0, 9, 2, 1, 1, 10, 1, 2, 11, 2, 0, 1, 1, 4, 14, 15]),
                         [1, -1, 1, -1, 1, -1, 1, -1, 1, 5, 1, -6, 3, 5, 1, 0])

    def mixed(self, seed, names, counts):
        """Lists of so many calls, answered as the model does; the names that were taken and those that were refused."""
        chance = random.Random(seed)
        taken, refused = set(), set()
        for count in counts:
            model = Model()
            calls = [("box", *chance.choice(SIZES))] if chance.random() < 0.8 else [("alike",)]
            parts = [getattr(model, calls[0][0])(*calls[0][1:])]
            while len(calls) < count:
                calls.append(some_call(chance, model, names))
                parts.append(getattr(model, calls[-1][0])(*calls[-1][1:]))
                (refused if parts[-1][0] < 0 else taken).add(calls[-1][0])
            self.assertEqual(ask(*calls), parts, calls)
        return taken, refused

    def test_lists_of_many_calls_mixed_with_refusals(self):
        names = list(NUMBERS) + ["put", "put", "take"]
        taken, refused = self.mixed(6, names, [40] * 120 + list(range(1, 40)))
        self.assertEqual(taken, set(NUMBERS))
        self.assertEqual(refused, {"box", "heap", "nth", "put", "take", "apart", "over", "under", "path", "lay"})

    def test_lists_that_keep_their_box_long(self):
        self.mixed(7, [name for name in NUMBERS if name not in ("box", "turn", "lay")] * 2 + ["turn", "lay"], [40] * 60)

    def test_forty_of_each_call(self):
        for call in ONE_OF_EACH:
            self.assertEqual(ask(*[call] * 40), by_model(*[call] * 40), call)
            self.assertEqual(ask(ONE_OF_EACH[0], *[call] * 39), by_model(ONE_OF_EACH[0], *[call] * 39), call)

    def test_any_order(self):
        for first in ONE_OF_EACH:
            for second in ONE_OF_EACH:
                calls = (("box", 3, 1, 3), ("put", 1, 1), first, second, first)
                self.assertEqual(ask(*calls), by_model(*calls), calls)
                self.assertEqual(ask(first, second), by_model(first, second), calls)

    def test_the_longest_list(self):
        for name in ("heap", "apart", "over", "under"):
            calls = [(name, [LARGEST] * 14)] * 40
            self.assertEqual(len(written(calls)), 640)
            self.assertEqual(ask(*calls), [[-1]] * 40)

    def test_the_slowest_lists(self):
        for name in ("alike", "turn", "fill", "lay"):
            for size in ((3, 3, 4), (3, 3, 3)):
                calls = [("box", *size), ("nth", 555)] + [(name,)] * 38
                self.assertEqual(ask(*calls), by_model(*calls), name)

    def test_a_row_may_hold_the_numbers_of_other_calls(self):
        parts = ask(("heap", [0, 2, 2, 2]), ("heap", []), ("heap", [6]), ("put", 1, 1), ("heap", [0]), ("rank",))
        self.assertEqual(parts, [[-1], [-1], [-1], [1], [0], [0]])
        parts = ask(("apart", [12, 13]), ("over", []), ("under", [15, 14, 13]), ("apart", [1]), ("fill",), ("over", [0]))
        self.assertEqual(parts, [[-1], [-1], [-1], [1], [1], [1]])


class HandedInTest(unittest.TestCase):
    def test_the_list_is_the_same_afterwards_and_in_between(self):
        calls = written(ONE_OF_EACH * 2)
        handed = Untouched(calls)
        cubeheaps.boxes.answers(handed)
        self.assertEqual(handed, calls)

    def test_a_plain_list_is_the_same_afterwards(self):
        calls = written(ONE_OF_EACH * 2)
        handed = list(calls)
        cubeheaps.boxes.answers(handed)
        self.assertEqual(handed, calls)

    def test_asked_twice_it_answers_alike(self):
        for calls in (ONE_OF_EACH, ONE_OF_EACH * 2, ONE_OF_EACH[::-1]):
            first = cubeheaps.boxes.answers(written(calls))
            again = cubeheaps.boxes.answers(written(calls))
            self.assertEqual(first, again)
            self.assertIsNot(first, again)

    def test_what_is_done_with_an_answer_does_not_come_back(self):
        calls = written([("box", 2, 2, 2), ("nth", 7), ("corners",), ("over", [1, 1, 1, 1]), ("turn",), ("path", 1)])
        first = cubeheaps.boxes.answers(calls)
        kept = list(first)
        first.clear()
        self.assertEqual(cubeheaps.boxes.answers(calls), kept)

    def test_a_second_list_begins_with_a_new_box(self):
        look = (("rank",), ("corners",), ("volume", 1), ("path", 1), ("path", 2), ("alike",), ("apart", [1]), ("nth", 2),
                ("put", 1, 2), ("put", 2, 1), ("turn",), ("fill",), ("lay",))
        before = by_model(*look)
        self.assertEqual(ask(*look), before)
        for calls in ([("box", 3, 3, 4), ("nth", 4115)], [("put", 1, 1)], [("fill",)], [("over", [1])],
                      [("box", 1, 2, 3), ("turn",), ("fill",), ("lay",)], [("box", 2, 3, 1), ("lay",), ("alike",)]):
            ask(*calls)
            self.assertEqual(ask(*look), before, calls)

    def test_answers_are_ints_and_never_bools(self):
        for call in ONE_OF_EACH:
            taken_apart(cubeheaps.boxes.answers(written([("box", 1, 1, 1), call])), 2)

    def test_nothing_is_printed(self):
        out = io.StringIO()
        with contextlib.redirect_stdout(out), contextlib.redirect_stderr(out):
            cubeheaps.boxes.answers(written(ONE_OF_EACH + [("box", 0, 0, 0), ("heap", []), ("path", 9)]))
        self.assertEqual(out.getvalue(), "")


if __name__ == "__main__":
    unittest.main()
