"""count: how many dots of a tint lie in a stretch, small, great and far, and what's refused."""

import unittest

from platehalldesk.hall import count, judge, tint
from tests.helper import (GREATEST, GREATEST_SIGNED, LEAST_SIGNED, NO_SLOPES, TOO_GREAT, calls, cell_numbers, places,
                          rank_by_words, screens, slopes, told_bytes)

MOST = 1000000000
CORNERS = ((0, 0), (1, 0), (0, 1), (-1, -1), (-8, 3), (50, -77), (LEAST_SIGNED, LEAST_SIGNED),
           (GREATEST_SIGNED, GREATEST_SIGNED), (LEAST_SIGNED, GREATEST_SIGNED), (GREATEST_SIGNED, LEAST_SIGNED),
           (0, LEAST_SIGNED), (GREATEST_SIGNED, 0))


def one_by_one(a, b, way, t, x, y, w, h):
    return sum(1 for i, j in places(w, h) if rank_by_words(a, b, way, x + i, y + j) < t)


def so_many(length, rest, p):
    """How many of the numbers from 0 to length - 1 have this rest in p."""
    return len(range(rest, length, p))


def by_rests(a, b, way, t, x, y, w, h):
    """The count of a great stretch: each place below p stands for all that are p apart from it."""
    n, p, g = cell_numbers(a, b)
    return sum(so_many(w, i, p) * so_many(h, j, p) for i, j in places(p, p)
               if rank_by_words(a, b, way, x + i, y + j) < t)


class Counts(unittest.TestCase):
    def sees(self, number, *given):
        self.assertEqual(calls(count, *given), [number, 0, 0], given)

    def test_the_whole_answer(self):
        # (2, 0), tone 1: every second place of every second row.
        self.sees(0, 2, 0, 0, 1, 0, 0, 0, 0)
        self.sees(1, 2, 0, 0, 1, 0, 0, 1, 1)
        self.sees(0, 2, 0, 0, 1, 1, 0, 1, 1)
        self.sees(4, 2, 0, 0, 1, 0, 0, 3, 3)
        self.sees(2, 2, 0, 0, 1, 1, 0, 3, 3)
        self.sees(1, 2, 0, 0, 1, -1, -1, 3, 3)
        self.sees(250000000000000000, 2, 0, 0, 1, 0, 0, MOST, MOST)
        self.sees(MOST * MOST, 1, 0, 0, 1, -3, -4, MOST, MOST)

    def test_small_stretches_of_every_screen(self):
        for number, (a, b, way) in enumerate(screens()):
            n, p, g = cell_numbers(a, b)
            lengths = sorted({0, 1, p - 1, p, p + 1, g, g + 1, 2 * p + 3})
            for step, w in enumerate(lengths):
                h = lengths[(step * 3 + number) % len(lengths)] if p < 20 else (0, 1, g, 5, 9)[(step + number) % 5]
                t = (number * 7 + step * 5) % (n + 1)
                x, y = CORNERS[(number + step) % len(CORNERS)]
                given = (a, b, way, t, x, y, w, h)
                self.assertEqual(count(*given), [one_by_one(*given), 0, 0], given)

    def test_all_small_sizes_of_some_screens(self):
        for a, b, way, t in ((1, 1, 0, 1), (2, 0, 1, 3), (2, 1, 2, 2), (2, 2, 0, 5), (3, 0, 2, 4), (1, 3, 1, 6)):
            n, p, g = cell_numbers(a, b)
            for w in range(p + 3):
                for h in range(p + 3):
                    given = (a, b, way, t, 1 - w, 2 * h - 5, w, h)
                    self.sees(one_by_one(*given), *given)

    def test_the_edges_of_periods(self):
        for a, b, way in ((3, 1, 0), (4, 2, 1), (6, 3, 2), (5, 5, 0), (4, 0, 1)):
            n, p, g = cell_numbers(a, b)
            for w in (0, 1, p - 1, p, p + 1, 2 * p - 1, 2 * p, g):
                for h in (0, 1, g - 1, g, g + 1, p - 1, p, p + 1):
                    for t in (0, 1, n // 2, n - 1, n):
                        given = (a, b, way, t, -2, 3, w, h)
                        self.assertEqual(count(*given), [one_by_one(*given), 0, 0], given)

    def test_every_tone(self):
        for a, b, way in ((3, 1, 0), (2, 2, 1), (4, 2, 2)):
            for t in range(a * a + b * b + 1):
                given = (a, b, way, t, -3, 2, 13, 6)
                self.sees(one_by_one(*given), *given)

    def test_corners_far_away(self):
        for a, b, way in ((1, 0, 0), (3, 0, 1), (2, 1, 2), (3, 3, 0), (6, 4, 1), (5, 6, 2)):
            for x, y in CORNERS:
                for w, h in ((1, 1), (7, 5), (3, 16)):
                    given = (a, b, way, (a * a + b * b + 1) // 2, x, y, w, h)
                    self.sees(one_by_one(*given), *given)

    def test_the_dots_of_the_tint(self):
        for a, b, way in screens()[::4]:
            for w, h in ((1, 1), (24, 24), (5, 19)):
                t = (a * a + b * b) * 2 // 3
                sheet = told_bytes(tint(a, b, way, t, -11, 6, w, h))
                self.assertEqual(count(a, b, way, t, -11, 6, w, h), [judge(sheet)[5], 0, 0], (a, b, way, w, h))

    def test_no_places(self):
        for a, b, way in screens()[::7]:
            n = a * a + b * b
            for length in (0, 1, 24, MOST):
                self.sees(0, a, b, way, n, -1, 1, 0, length)
                self.sees(0, a, b, way, n, 1, -1, length, 0)

    def test_none_and_all(self):
        for a, b, way in screens():
            n = a * a + b * b
            for w, h in ((1, 1), (9, 70), (MOST, MOST), (MOST - 1, 3)):
                self.assertEqual(count(a, b, way, 0, -5, 5, w, h), [0, 0, 0])
                self.assertEqual(count(a, b, way, n, -5, 5, w, h), [w * h, 0, 0])


class GreatStretches(unittest.TestCase):
    def test_multiples_of_p_and_g(self):
        for number, (a, b, way) in enumerate(screens()):
            n, p, g = cell_numbers(a, b)
            w = MOST // p * p
            h = MOST // g * g
            for t in (0, 1, n // 2, n):
                x, y = CORNERS[(number + t) % len(CORNERS)]
                self.assertEqual(count(a, b, way, t, x, y, w, h), [w * h // n * t, 0, 0], (a, b, way, t))
                self.assertEqual(count(a, b, way, t, x, y, p, h), [p * h // n * t, 0, 0], (a, b, way, t))
                self.assertEqual(count(a, b, way, t, x, y, w, g), [w * g // n * t, 0, 0], (a, b, way, t))

    def test_the_greatest_width_and_height(self):
        for number, (a, b, way) in enumerate(screens()):
            n, p, g = cell_numbers(a, b)
            x, y = CORNERS[number % len(CORNERS)]
            for w, h in ((MOST, MOST), (MOST - 1, MOST), (MOST, 7), (3, MOST - 1)):
                given = (a, b, way, (number * 5) % (n + 1), x, y, w, h)
                self.assertEqual(count(*given), [by_rests(*given), 0, 0], given)

    def test_the_whole_answer_at_the_greatest(self):
        self.assertEqual(calls(count, 8, 0, 0, 1, 0, 0, MOST, MOST), [125000000 * 125000000, 0, 0])
        self.assertEqual(calls(count, 2, 1, 2, 3, LEAST_SIGNED, GREATEST_SIGNED, MOST, MOST), [MOST * MOST // 5 * 3, 0, 0])

    def test_the_reckoning_by_rests_is_that_one_by_one(self):
        for a, b, way in ((2, 1, 0), (3, 3, 1), (4, 2, 2)):
            given = (a, b, way, 4, -7, 5, 23, 17)
            self.assertEqual(by_rests(*given), one_by_one(*given))


class SideBySide(unittest.TestCase):
    def test_counts_add_up(self):
        for number, (a, b, way) in enumerate(screens()):
            n, p, g = cell_numbers(a, b)
            t = (number * 11) % (n + 1)
            # Corners at the greatest numbers leave no room for a second stretch that begins further on.
            for x, y in CORNERS[:6] + ((LEAST_SIGNED, LEAST_SIGNED),):
                for w, w2, h in ((1, 2, 3), (p - 1, p + 1, g), (5, 0, 9), (MOST // 2, MOST // 2 - 3, MOST)):
                    whole = count(a, b, way, t, x, y, w + w2, h)[0]
                    right = count(a, b, way, t, x + w, y, w2, h)[0]
                    self.assertEqual(count(a, b, way, t, x, y, w, h)[0] + right, whole, (a, b, way, x, y, w, w2, h))
                    whole = count(a, b, way, t, x, y, h, w + w2)[0]
                    below = count(a, b, way, t, x, y + w, h, w2)[0]
                    self.assertEqual(count(a, b, way, t, x, y, h, w)[0] + below, whole, (a, b, way, x, y, w, w2, h))


class Refusals(unittest.TestCase):
    def refuses(self, *given):
        self.assertEqual(calls(count, *given), [-1, 0, 0], given)

    def test_widths_and_heights_one_above_the_greatest(self):
        for bad in (MOST + 1, MOST + 2, 1 << 32, 1 << 63, GREATEST):
            for good in (0, 1, MOST):
                self.refuses(2, 1, 0, 1, 0, 0, bad, good)
                self.refuses(2, 1, 0, 1, 0, 0, good, bad)
                self.refuses(2, 1, 0, 0, LEAST_SIGNED, GREATEST_SIGNED, bad, good)
            self.refuses(2, 1, 0, 1, 0, 0, bad, bad)

    def test_tones_above_n(self):
        for a, b in slopes():
            n = a * a + b * b
            for way in range(3):
                self.assertEqual(count(a, b, way, n, 0, 0, 2, 2), [4, 0, 0])
                self.assertEqual(count(a, b, way, n + 1, 0, 0, 2, 2), [-1, 0, 0], (a, b, way))
                self.assertEqual(count(a, b, way, n + 1, 0, 0, 0, 0), [-1, 0, 0], (a, b, way))
        for t in (65, 256, 1 << 32, 1 << 63, GREATEST):
            self.refuses(8, 0, 0, t, 0, 0, 1, 1)

    def test_screens_that_are_none(self):
        for a, b in NO_SLOPES:
            for way in range(4):
                self.refuses(a, b, way, 0, 0, 0, 3, 3)
                self.refuses(a, b, way, 0, 0, 0, 0, 0)
        for way in (3, 4, 255, 1 << 32, GREATEST):
            self.refuses(2, 1, way, 0, 0, 0, 3, 3)

    def test_great_numbers_alone_and_together(self):
        for great in TOO_GREAT:
            for given in ((great, 0, 0, 0, 0, 0, 1, 1), (1, great, 0, 0, 0, 0, 1, 1), (1, 0, great, 0, 0, 0, 1, 1),
                          (1, 0, 0, great, 0, 0, 1, 1), (great, great, 0, great, 0, 0, 1, 1),
                          (great, great, great, great, LEAST_SIGNED, GREATEST_SIGNED, great, great)):
                self.refuses(*given)

    def test_several_at_once(self):
        self.refuses(0, 0, 3, 1, 0, 0, 0, 0)
        self.refuses(2, 1, 3, 6, 0, 0, MOST + 1, 0)
        self.refuses(9, 0, 0, GREATEST, LEAST_SIGNED, LEAST_SIGNED, GREATEST, 0)


if __name__ == "__main__":
    unittest.main()
