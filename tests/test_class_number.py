"""class_number: the words' class, of places on every lattice, far ones too, and the screens that are none."""

import unittest

from platehalldesk.hall import class_number
from tests.helper import (GREATEST_SIGNED, LEAST_SIGNED, NO_SLOPES, TOO_GREAT, calls, cell_numbers, class_of,
                          class_places, lattice_places, on_lattice, slopes)

EDGES = (LEAST_SIGNED, LEAST_SIGNED + 1, LEAST_SIGNED + 63, GREATEST_SIGNED - 63, GREATEST_SIGNED - 1, GREATEST_SIGNED)
# Lengths of steps along the lattice: none, a few, many, and some that whole numbers of 32 or 53 bits don't hold.
STEPS = (0, 1, 2, 3, 7, 64, 1000, (1 << 31) + 5, (1 << 53) + 1, 1 << 58)


def class_by_search(a, b, x, y):
    """The number of the one place below p and g that's of one class with (x, y)."""
    found = [number for number, (u, v) in enumerate(class_places(a, b)) if on_lattice(a, b, x - u, y - v)]
    assert len(found) == 1
    return found[0]


class Numbers(unittest.TestCase):
    def test_the_whole_answer(self):
        # (4, 2): p 10, g 2. The lattice has (10, 0): (0, 2) less (4, 2) is (-4, 0), of one class with (6, 0).
        for x, y, number in ((0, 0, 0), (9, 0, 9), (10, 0, 0), (-1, 0, 9), (0, 1, 10), (9, 1, 19), (10, 1, 10),
                             (4, 2, 0), (-2, 4, 0), (5, 2, 1), (0, 2, 6), (0, -1, 14), (0, -2, 4), (-4, -2, 0)):
            self.assertEqual(calls(class_number, 4, 2, x, y), [number, 0, 0], (x, y))
        # (1, 2): p 5, g 1. The lattice has (-2, 1): (0, 1) less that is (2, 0).
        for x, y, number in ((0, 0, 0), (4, 0, 4), (-2, 1, 0), (3, 1, 0), (0, 1, 2), (1, 2, 0), (0, 2, 4), (2, -1, 0)):
            self.assertEqual(calls(class_number, 1, 2, x, y), [number, 0, 0], (x, y))
        # (3, 0): the lattice isn't turned.
        for x, y, number in ((0, 0, 0), (2, 0, 2), (3, 0, 0), (1, 2, 7), (1, 3, 1), (-1, -1, 8), (4, 5, 7)):
            self.assertEqual(calls(class_number, 3, 0, x, y), [number, 0, 0], (x, y))

    def test_places_below_p_and_g_of_every_slope(self):
        for a, b in slopes():
            n, p, g = cell_numbers(a, b)
            told = [calls(class_number, a, b, x, y) for y in range(g) for x in range(p)]
            self.assertEqual(told, [[number, 0, 0] for number in range(n)], (a, b))

    def test_those_places_moved_along_the_lattice(self):
        for a, b in slopes():
            n, p, g = cell_numbers(a, b)
            moves = [(i * a * f - j * b * e, i * b * f + j * a * e)
                     for f in (-1, 1) for e in (-1, 1) for i in STEPS for j in STEPS[::3]]
            for number, (x, y) in enumerate(class_places(a, b)):
                # Every class along a part of the moves, each time another.
                for s, t in moves[number % 7::7]:
                    self.assertEqual(class_number(a, b, x + s, y + t), [number, 0, 0], (a, b, x + s, y + t))

    def test_all_places_near_by_are_of_the_class_that_is_found_on_the_lattice(self):
        for a, b in slopes():
            for x in range(-20, 21, 3 if a > 2 else 1):
                for y in range(-12, 13):
                    number = class_by_search(a, b, x, y)
                    self.assertEqual(class_of(a, b, x, y), number)
                    self.assertEqual(class_number(a, b, x, y), [number, 0, 0], (a, b, x, y))

    def test_the_lattice_itself_is_class_0(self):
        for a, b in slopes():
            for x, y in lattice_places(a, b, range(-5, 6)):
                self.assertEqual(class_number(a, b, x, y), [0, 0, 0], (a, b, x, y))

    def test_b_0(self):
        for a in range(1, 9):
            for x in range(-2 * a, 2 * a + 1):
                for y in range(-2 * a, 2 * a + 1):
                    self.assertEqual(class_number(a, 0, x, y), [y % a * a + x % a, 0, 0], (a, x, y))

    def test_one_class_alone(self):
        for x in (LEAST_SIGNED, -7, 0, 3, GREATEST_SIGNED):
            for y in (LEAST_SIGNED, -1, 0, 8, GREATEST_SIGNED):
                self.assertEqual(calls(class_number, 1, 0, x, y), [0, 0, 0])

    def test_the_least_and_the_greatest_places(self):
        for a, b in slopes():
            for great in EDGES:
                for usual in (0, 1, -1, 5) + EDGES:
                    for x, y in ((great, usual), (usual, great)):
                        number = class_by_search(a, b, x, y)
                        self.assertEqual(class_number(a, b, x, y), [number, 0, 0], (a, b, x, y))


class Refusals(unittest.TestCase):
    def test_slopes_that_are_none(self):
        for a, b in NO_SLOPES:
            for x, y in ((0, 0), (-5, 3), (LEAST_SIGNED, GREATEST_SIGNED)):
                self.assertEqual(calls(class_number, a, b, x, y), [-1, 0, 0], (a, b))

    def test_every_slope_from_0_to_9(self):
        good = slopes()
        for a in range(10):
            for b in range(10):
                self.assertEqual(class_number(a, b, 0, 0), [0 if (a, b) in good else -1, 0, 0], (a, b))

    def test_n_at_64(self):
        self.assertEqual(calls(class_number, 8, 0, 7, 7), [63, 0, 0])

    def test_great_numbers(self):
        for great in TOO_GREAT:
            for a, b in ((great, 0), (great, 1), (1, great), (0, great), (great, great)):
                self.assertEqual(calls(class_number, a, b, 1, 1), [-1, 0, 0], (a, b))
                self.assertEqual(calls(class_number, a, b, LEAST_SIGNED, LEAST_SIGNED), [-1, 0, 0], (a, b))


if __name__ == "__main__":
    unittest.main()
