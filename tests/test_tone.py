"""tone: the least tone and the least class that print a sheet, and what's refused."""

import unittest

from platehalldesk.hall import tint, tone
from tests.helper import (BAD_BIT, GOOD, GREATEST, GREATEST_SIGNED, LEAST_SIGNED, LONG, NO_SLOPES, TOO_GREAT, calls,
                          cell_numbers, class_places, encode, every_sheet, fault, from_picture, mixed_sheet, places,
                          rank_by_words, refusal, refused_bytes, screens, tint_by_words, told_bytes)


def by_search(a, b, way, sheet):
    """Over all tones, the least first, and over all classes, the least first."""
    w, h, dots = sheet
    for t in range(a * a + b * b + 1):
        for x, y in class_places(a, b):
            if all(((i, j) in dots) == (rank_by_words(a, b, way, x + i, y + j) < t) for i, j in places(w, h)):
                return [t, 0, 2, x, y]
    return refusal(-4)


class Tones(unittest.TestCase):
    def sees(self, a, b, way, sheet):
        answer = by_search(a, b, way, sheet)
        self.assertEqual(tone(a, b, way, encode(sheet)), answer, (a, b, way, sheet))
        return answer

    def test_the_whole_answer(self):
        # (2, 0): ranks 0 1 in the first row, 2 3 in the second.
        for lines, told in (
                ((".",), [0, 0, 2, 0, 0]),
                (("#",), [1, 0, 2, 0, 0]),
                (("#.", ".."), [1, 0, 2, 0, 0]),
                ((".#", ".."), [1, 0, 2, 1, 0]),
                (("..", "#."), [1, 0, 2, 0, 1]),
                (("..", ".#"), [1, 0, 2, 1, 1]),
                (("##", ".."), [2, 0, 2, 0, 0]),
                (("##", "#."), [3, 0, 2, 0, 0]),
                (("##", ".#"), [3, 0, 2, 1, 0]),
                (("##", "##"), [4, 0, 2, 0, 0]),
                (("#.", "#."), [-4, 0, 0]),
                (("#.", ".#"), [-4, 0, 0]),
                (("##",), [2, 0, 2, 0, 0]),
                (("#", "#"), [3, 0, 2, 0, 0]),
                (("#.#",), [1, 0, 2, 0, 0]),
                (("#..",), [-4, 0, 0])):
            self.assertEqual(calls(tone, 2, 0, 0, encode(from_picture(*lines))), told, lines)

    def test_one_class_alone(self):
        for way in range(3):
            self.assertEqual(calls(tone, 1, 0, way, encode((3, 2, set()))), [0, 0, 2, 0, 0])
            self.assertEqual(calls(tone, 1, 0, way, encode((3, 2, set(places(3, 2))))), [1, 0, 2, 0, 0])
            self.assertEqual(calls(tone, 1, 0, way, encode((3, 2, {(1, 1)}))), [-4, 0, 0])

    def test_every_small_sheet(self):
        for a, b, way in ((1, 1, 0), (2, 0, 1), (2, 1, 0), (1, 2, 2), (2, 2, 0), (2, 2, 1), (3, 0, 2), (3, 1, 0)):
            for w, h in ((1, 1), (2, 2), (3, 2), (1, 4), (5, 1)):
                for sheet in every_sheet(w, h):
                    self.sees(a, b, way, sheet)

    def test_tints_of_every_screen(self):
        for number, (a, b, way) in enumerate(screens()):
            n, p, g = cell_numbers(a, b)
            for step, (w, h) in enumerate(((1, 1), (6, 5), (2, 9), (24, 2), (13, 12))):
                t = (number * 3 + step * n // 4) % (n + 1)
                sheet = tint_by_words(a, b, way, t, number - 40, step * 7 - 11, w, h)
                told = self.sees(a, b, way, sheet)
                self.assertLessEqual(told[0], t)
                self.assertEqual(tint_by_words(a, b, way, told[0], told[3], told[4], w, h), sheet)

    def test_the_greatest_sheets(self):
        for a, b, way in ((1, 0, 0), (8, 0, 1), (5, 6, 0), (3, 7, 2), (4, 4, 1), (6, 3, 0)):
            n, p, g = cell_numbers(a, b)
            for t in (0, 1, n // 3, n - 1, n):
                sheet = tint_by_words(a, b, way, t, LEAST_SIGNED, GREATEST_SIGNED, 24, 24)
                self.assertEqual(calls(tone, a, b, way, encode(sheet)), by_search(a, b, way, sheet), (a, b, way, t))

    def test_all_dots_and_none(self):
        for a, b, way in screens():
            for w, h in ((1, 1), (3, 3), (24, 1), (1, 24)):
                self.assertEqual(tone(a, b, way, encode((w, h, set()))), [0, 0, 2, 0, 0])
                self.sees(a, b, way, (w, h, set(places(w, h))))
            self.assertEqual(tone(a, b, way, encode((1, 1, {(0, 0)}))), [1, 0, 2, 0, 0])

    def test_all_dots_of_a_sheet_with_every_class(self):
        for a, b, way in screens():
            n, p, g = cell_numbers(a, b)
            if p <= 24:
                self.assertEqual(tone(a, b, way, encode((p, g, set(places(p, g))))), [n, 0, 2, 0, 0], (a, b, way))

    def test_sheets_with_one_dot_more_or_less(self):
        met = 0
        for number, (a, b, way) in enumerate(screens()):
            n = a * a + b * b
            w, h, dots = tint_by_words(a, b, way, n // 2, 4, 1, 9, 8)
            answer = self.sees(a, b, way, (w, h, dots ^ {(number % 9, number % 8)}))
            met += answer == refusal(-4)
        self.assertGreater(met, 100)

    def test_sheets_that_are_no_tint(self):
        met = 0
        for number, (a, b, way) in enumerate(screens()):
            answer = self.sees(a, b, way, mixed_sheet(3 + number % 5, 3, number, 8))
            met += answer == refusal(-4)
            self.assertEqual(calls(tone, a, b, way, encode(mixed_sheet(24, 24, number, 8))), [-4, 0, 0])
        self.assertGreater(met, 100)

    def test_small_sheets_of_great_screens(self):
        # Few places leave many tones and classes to choose from.
        for a, b, way in ((5, 6, 0), (6, 5, 1), (7, 3, 2), (8, 0, 0), (5, 5, 1), (6, 4, 2)):
            for sheet in list(every_sheet(2, 2)) + list(every_sheet(3, 1)) + list(every_sheet(1, 3)):
                self.sees(a, b, way, sheet)

    def test_of_any_tint_a_tone_at_most_its_own_that_gives_it_again(self):
        for number, (a, b, way) in enumerate(screens()):
            n, p, g = cell_numbers(a, b)
            for t in sorted({0, 1, n // 2, n - 1, n}):
                w, h = ((24, 24), (10, 3), (1, 7), (5, 5))[(number + t) % 4]
                sheet = told_bytes(tint(a, b, way, t, -number * 1001, LEAST_SIGNED + number, w, h))
                told = tone(a, b, way, sheet)
                self.assertEqual(told[1:3], [0, 2])
                self.assertTrue(0 <= told[0] <= t and 0 <= told[3] < p and 0 <= told[4] < g, (a, b, way, t, told))
                self.assertEqual(told_bytes(tint(a, b, way, told[0], told[3], told[4], w, h)), sheet)


class Refusals(unittest.TestCase):
    def test_bytes_that_are_no_sheet(self):
        for s, told in refused_bytes():
            for a, b, way in ((3, 1, 0), (1, 0, 2)):
                self.assertEqual(calls(tone, a, b, way, s), told, s[:8])

    def test_faults_come_before_a_screen_that_is_none(self):
        for s, told in refused_bytes():
            for a, b, way in ((0, 0, 0), (9, 0, 0), (1, 0, 3), (8, 1, 0), (GREATEST, GREATEST, GREATEST)):
                self.assertEqual(calls(tone, a, b, way, s), told, (a, b, way, s[:8]))

    def test_more_than_4096_bytes_come_first(self):
        self.assertEqual(calls(tone, 0, 0, 3, LONG), [-2, 0, 0])
        self.assertEqual(calls(tone, 2, 1, 0, BAD_BIT + [0] * 4091), [-2, 0, 0])
        self.assertEqual(calls(tone, 2, 1, 0, BAD_BIT + [0] * 4090), fault(3, 4))
        self.assertEqual(calls(tone, 2, 1, 0, [255] * 4096), fault(2, 0))
        self.assertEqual(calls(tone, 2, 1, 0, [0] * 4097), [-2, 0, 0])

    def test_screens_that_are_none(self):
        for a, b in NO_SLOPES:
            for way in range(4):
                self.assertEqual(calls(tone, a, b, way, GOOD), [-1, 0, 0], (a, b, way))
        for way in (3, 4, 255, 1 << 32, 1 << 63, GREATEST):
            self.assertEqual(calls(tone, 2, 1, way, GOOD), [-1, 0, 0], way)

    def test_a_screen_that_is_none_comes_before_none_found(self):
        self.assertEqual(calls(tone, 1, 0, 0, GOOD), [-4, 0, 0])
        self.assertEqual(calls(tone, 1, 0, 3, GOOD), [-1, 0, 0])
        self.assertEqual(calls(tone, 0, 0, 0, GOOD), [-1, 0, 0])

    def test_great_numbers_alone_and_together(self):
        for great in TOO_GREAT:
            for a, b, way in ((great, 0, 0), (1, great, 0), (1, 0, great), (great, great, 0), (great, great, great)):
                self.assertEqual(calls(tone, a, b, way, GOOD), [-1, 0, 0], (a, b, way))


if __name__ == "__main__":
    unittest.main()
