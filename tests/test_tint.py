"""tint: the dots of a tone, wherever the sheet lies, and what's refused."""

import unittest

from platehalldesk.hall import judge, rank, tint
from tests.helper import (GREATEST, GREATEST_SIGNED, LEAST_SIGNED, NO_SLOPES, TOO_GREAT, bytes_answer, calls, encode,
                          from_picture, lattice_places, places, screens, slopes, tint_by_words, told_bytes)

OFFSETS = ((0, 0), (1, 0), (0, 1), (-1, 0), (0, -1), (-7, 5), (100, -33), (LEAST_SIGNED, LEAST_SIGNED),
           (GREATEST_SIGNED, GREATEST_SIGNED), (LEAST_SIGNED, GREATEST_SIGNED), (GREATEST_SIGNED, LEAST_SIGNED),
           (LEAST_SIGNED, 0), (0, GREATEST_SIGNED), (GREATEST_SIGNED - 3, -1), (2, LEAST_SIGNED + 5))
SIZES = ((1, 1), (24, 24), (1, 24), (24, 1), (7, 3), (8, 2), (9, 5), (16, 2), (17, 4), (23, 1))


def some_tones(n):
    return sorted({0, 1, n // 2, n - 1, n})


class Tints(unittest.TestCase):
    def sees(self, *given):
        self.assertEqual(calls(tint, *given), bytes_answer(encode(tint_by_words(*given))), given)

    def test_the_whole_answer(self):
        self.assertEqual(calls(tint, 2, 0, 0, 1, 0, 0, 4, 2), [6, 6, 4, 0, 2, 0, 5, 0, 0])
        self.assertEqual(calls(tint, 2, 0, 0, 1, 1, 0, 4, 2), [6, 6, 4, 0, 2, 0, 10, 0, 0])
        self.assertEqual(calls(tint, 2, 0, 0, 1, 0, 1, 4, 2), [6, 6, 4, 0, 2, 0, 0, 5, 0])
        self.assertEqual(calls(tint, 1, 0, 2, 1, -5, 9, 9, 1), [6, 6, 9, 0, 1, 0, 255, 1, 0])
        self.assertEqual(calls(tint, 1, 0, 2, 0, -5, 9, 9, 1), [6, 6, 9, 0, 1, 0, 0, 0, 0])

    def test_pictures(self):
        # Ranks by way 2 of (1, 2)'s classes are 0 3 1 2 4; a row further down is 2 classes further on.
        for t, ox, oy, picture in (
                (1, 0, 0, ("#....#", "...#..", ".#....", "....#.", "..#...", "#....#")),
                (2, 0, 0, ("#.#..#", "#..#.#", ".#.#..", ".#..#.", "..#.#.", "#.#..#")),
                (3, 0, 0, ("#.##.#", "##.#.#", ".#.##.", ".##.#.", "#.#.##", "#.##.#")),
                (1, 2, 0, ("...#..", ".#....")),
                (1, 0, 1, ("...#..", ".#....")),
                (1, -1, 0, (".#....", "....#.")),
                (5, 3, -3, ("######", "######"))):
            sheet = from_picture(*picture)
            told = calls(tint, 1, 2, 2, t, ox, oy, sheet[0], sheet[1])
            self.assertEqual(told, bytes_answer(encode(sheet)), (t, ox, oy))

    def test_every_screen(self):
        for number, (a, b, way) in enumerate(screens()):
            for t in some_tones(a * a + b * b):
                for at in range(3):
                    ox, oy = OFFSETS[(number + t + 5 * at) % len(OFFSETS)]
                    w, h = SIZES[(number // 3 + t + at) % len(SIZES)]
                    self.sees(a, b, way, t, ox, oy, w, h)

    def test_every_tone(self):
        for a, b, way in ((3, 1, 0), (2, 2, 1), (4, 2, 2), (5, 0, 0), (5, 6, 1)):
            for t in range(a * a + b * b + 1):
                self.sees(a, b, way, t, -3, 2, 11, 6)

    def test_offsets(self):
        for a, b, way in ((1, 0, 0), (3, 0, 1), (2, 1, 2), (3, 3, 0), (6, 4, 1), (7, 3, 2)):
            n = a * a + b * b
            for ox, oy in OFFSETS:
                for t in some_tones(n):
                    self.sees(a, b, way, t, ox, oy, 10, 4)

    def test_widths_and_heights(self):
        for size in range(1, 25):
            self.sees(3, 2, size % 3, 7, 5, -2, size, 3)
            self.sees(4, 4, size % 3, 20, -5, 1, 2, size)
            self.sees(1, 2, size % 3, 3, 0, 0, size, size)

    def test_the_bits_behind_the_last_dot_are_0(self):
        for w in range(1, 25):
            for h in (1, 2, 24):
                told = told_bytes(calls(tint, 2, 1, 0, 5, 0, 0, w, h))
                self.assertEqual(judge(told), [0, 0, 3, w, h, w * h])
                self.assertEqual(told, encode((w, h, set(places(w, h)))))

    def test_what_rank_tells(self):
        for a, b, way in screens()[::5]:
            t = (a * a + b * b) // 2 + 1
            dots = {(x, y) for x, y in places(9, 7) if rank(a, b, way, x - 4, y + 30)[0] < t}
            self.assertEqual(tint(a, b, way, t, -4, 30, 9, 7), bytes_answer(encode((9, 7, dots))), (a, b, way))

    def test_the_same_along_the_lattice(self):
        for a, b, way in screens():
            t = (a * a + b * b + 1) // 2
            told = tint(a, b, way, t, 3, -2, 12, 9)
            for s, u in lattice_places(a, b, (-(1 << 40), 1, 77)):
                self.assertEqual(tint(a, b, way, t, 3 + s, -2 + u, 12, 9), told, (a, b, way, s, u))

    def test_none_and_all(self):
        for a, b, way in screens():
            n = a * a + b * b
            self.assertEqual(tint(a, b, way, 0, -9, 9, 24, 24), bytes_answer(encode((24, 24, set()))))
            self.assertEqual(tint(a, b, way, n, -9, 9, 24, 24), bytes_answer(encode((24, 24, set(places(24, 24))))))


class Refusals(unittest.TestCase):
    def refuses(self, *given):
        self.assertEqual(calls(tint, *given), [-1, 0, 0], given)

    def test_tones_above_n(self):
        for a, b in slopes():
            n = a * a + b * b
            for way in range(3):
                self.assertEqual(tint(a, b, way, n, 0, 0, 1, 1), [5, 5, 1, 0, 1, 0, 1, 0])
                self.assertEqual(tint(a, b, way, n + 1, 0, 0, 1, 1), [-1, 0, 0], (a, b, way))
        for t in (65, 256, 1 << 32, 1 << 63, (1 << 63) + 1, GREATEST):
            self.refuses(8, 0, 0, t, 0, 0, 1, 1)
            self.refuses(1, 0, 1, t, 0, 0, 24, 24)

    def test_widths_and_heights(self):
        for bad in (0, 25, 26, 32, 255, 256, 257, 1 << 16, 1 << 32, (1 << 32) + 1, 1 << 63, GREATEST):
            for good in (1, 5, 24):
                self.refuses(2, 1, 0, 1, 0, 0, bad, good)
                self.refuses(2, 1, 0, 1, 0, 0, good, bad)
            self.refuses(2, 1, 0, 1, 0, 0, bad, bad)
            self.refuses(2, 1, 0, 0, -1, -1, bad, 1)

    def test_screens_that_are_none(self):
        for a, b in NO_SLOPES:
            for way in range(4):
                self.refuses(a, b, way, 0, 0, 0, 3, 3)
        for way in (3, 4, 255, 1 << 32, GREATEST):
            self.refuses(2, 1, way, 0, 0, 0, 3, 3)

    def test_great_numbers_alone_and_together(self):
        for great in TOO_GREAT:
            for given in ((great, 0, 0, 0, 0, 0, 1, 1), (1, great, 0, 0, 0, 0, 1, 1), (1, 0, great, 0, 0, 0, 1, 1),
                          (1, 0, 0, great, 0, 0, 1, 1), (great, great, 0, great, 0, 0, 1, 1),
                          (great, great, great, great, LEAST_SIGNED, GREATEST_SIGNED, great, great)):
                self.refuses(*given)

    def test_several_at_once(self):
        self.refuses(0, 0, 3, 1, 0, 0, 0, 0)
        self.refuses(2, 1, 3, 6, 0, 0, 25, 0)
        self.refuses(9, 0, 0, GREATEST, LEAST_SIGNED, LEAST_SIGNED, GREATEST, 0)


if __name__ == "__main__":
    unittest.main()
