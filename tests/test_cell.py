"""cell: of every slope n, p and g, and the screens that are none."""

import unittest

from platehalldesk.hall import cell
from tests.helper import TOO_GREAT, calls, greatest_common_divisor, on_lattice, slopes


class Cells(unittest.TestCase):
    def test_the_whole_answer(self):
        for a, b, n, p, g in (
                (1, 0, 1, 1, 1), (2, 0, 4, 2, 2), (7, 0, 49, 7, 7), (8, 0, 64, 8, 8),
                (1, 1, 2, 2, 1), (1, 2, 5, 5, 1), (2, 1, 5, 5, 1), (3, 4, 25, 25, 1), (2, 2, 8, 4, 2),
                (2, 4, 20, 10, 2), (4, 2, 20, 10, 2), (6, 4, 52, 26, 2), (3, 6, 45, 15, 3), (6, 3, 45, 15, 3),
                (4, 4, 32, 8, 4), (5, 5, 50, 10, 5), (1, 7, 50, 50, 1), (7, 1, 50, 50, 1), (5, 6, 61, 61, 1),
                (6, 5, 61, 61, 1), (7, 3, 58, 58, 1), (3, 7, 58, 58, 1)):
            self.assertEqual(calls(cell, a, b), [n, 0, 3, n, p, g], (a, b))

    def test_every_slope_from_0_to_9(self):
        taken = 0
        for a in range(10):
            for b in range(10):
                n = a * a + b * b
                if 1 <= a <= 8 and b <= 8 and n <= 64:
                    g = greatest_common_divisor(a, b)
                    self.assertEqual(calls(cell, a, b), [n, 0, 3, n, n // g, g], (a, b))
                    taken += 1
                else:
                    self.assertEqual(calls(cell, a, b), [-1, 0, 0], (a, b))
        self.assertEqual(taken, len(slopes()))

    def test_b_0(self):
        for a in range(1, 9):
            self.assertEqual(calls(cell, a, 0), [a * a, 0, 3, a * a, a, a])

    def test_each_class_has_just_one_place_within_p_and_g(self):
        for a, b in slopes():
            n, p, g = cell(a, b)[3:]
            self.assertEqual(p * g, n)
            met = [(x, y) for y in range(-g + 1, g) for x in range(-p + 1, p) if on_lattice(a, b, x, y)]
            self.assertEqual(met, [(0, 0)], (a, b))


class Refusals(unittest.TestCase):
    def test_a_0(self):
        for b in range(10):
            self.assertEqual(calls(cell, 0, b), [-1, 0, 0])

    def test_n_at_64_and_above(self):
        self.assertEqual(calls(cell, 8, 0), [64, 0, 3, 64, 8, 8])
        for a, b in ((8, 1), (1, 8), (7, 4), (4, 7), (8, 8), (6, 6), (7, 7), (5, 7), (6, 8), (8, 2)):
            self.assertEqual(calls(cell, a, b), [-1, 0, 0])

    def test_great_numbers(self):
        for great in TOO_GREAT:
            for usual in (0, 1, 3, 8):
                self.assertEqual(calls(cell, great, usual), [-1, 0, 0])
                self.assertEqual(calls(cell, usual, great), [-1, 0, 0])
            for other in TOO_GREAT:
                self.assertEqual(calls(cell, great, other), [-1, 0, 0])


if __name__ == "__main__":
    unittest.main()
