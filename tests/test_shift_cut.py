"""shift and cut: by the words, at the edges of the sheet and of the numbers."""

import unittest

from platehalldesk.hall import cut, shift
from tests.helper import (GOOD, GREATEST, GREATEST_SIGNED, LEAST_SIGNED, bytes_answer, calls, encode, every_sheet,
                          from_picture, many_sheets, mixed_sheet, places, refused_bytes, told_bytes)

TOO_FAR = (-25, 25, -26, 26, -48, 48, -256, 256, -(1 << 32), 1 << 32, LEAST_SIGNED, LEAST_SIGNED + 1,
           GREATEST_SIGNED - 1, GREATEST_SIGNED)
TOO_GREAT = (25, 255, 256, 1 << 16, 1 << 32, 1 << 63, GREATEST - 1, GREATEST)


def shifted(dx, dy, sheet):
    w, h, dots = sheet
    return (w, h, {(x + dx, y + dy) for x, y in dots} & set(places(w, h)))


def cut_out(x, y, w, h, sheet):
    return (w, h, {(i, j) for i, j in places(w, h) if (x + i, y + j) in sheet[2]})


class Shift(unittest.TestCase):
    def check(self, dx, dy, sheet):
        with self.subTest(dx=dx, dy=dy, sheet=sheet):
            self.assertEqual(calls(shift, dx, dy, encode(sheet)), bytes_answer(encode(shifted(dx, dy, sheet))))

    def drawn(self, answer, *lines):
        self.assertEqual(answer, bytes_answer(encode(from_picture(*lines))))

    def test_the_whole_answer(self):
        self.assertEqual(calls(shift, 1, 0, GOOD), [6, 6, 3, 0, 2, 0, 2, 4, 0])
        self.assertEqual(calls(shift, -1, 0, GOOD), [6, 6, 3, 0, 2, 0, 2, 1, 0])
        self.assertEqual(calls(shift, 0, 1, GOOD), [6, 6, 3, 0, 2, 0, 0, 5, 0])
        self.assertEqual(calls(shift, 0, -1, GOOD), [6, 6, 3, 0, 2, 0, 2, 0, 0])

    def test_drawn(self):
        a = encode(from_picture("##.......#", ".#........", "........##"))
        self.drawn(calls(shift, 2, 1, a), "..........", "..##......", "...#......")
        self.drawn(calls(shift, -1, -1, a), "#.........", ".......##.", "..........")
        self.drawn(calls(shift, 7, -2, a), "..........", "..........", "..........")
        self.drawn(calls(shift, -8, 0, a), ".#........", "..........", "##........")
        self.drawn(calls(shift, 8, 0, a), "........##", ".........#", "..........")

    def test_dots_at_the_bounds_of_bytes(self):
        for x in (0, 7, 8, 15, 16, 23):
            for dx in range(-24, 25):
                self.check(dx, 0, (24, 2, {(x, 0), (x, 1)}))
                self.check(0, dx, (2, 24, {(0, x), (1, x)}))

    def test_every_small_sheet(self):
        for sheet in every_sheet(3, 2):
            for dx in range(-3, 4):
                for dy in range(-2, 3):
                    self.check(dx, dy, sheet)

    def test_many(self):
        for sheet in many_sheets():
            for dx in (-24, -1, 0, 1, 24):
                for dy in (-24, -1, 0, 1, 24):
                    self.check(dx, dy, sheet)

    def test_by_as_much_as_the_sheet_is_wide_or_high_and_by_one_less(self):
        for w, h in ((1, 1), (1, 24), (24, 1), (24, 24), (9, 16), (8, 17), (3, 5)):
            for sheet in ((w, h, set(places(w, h))), mixed_sheet(w, h, 4, 8)):
                empty = bytes_answer(encode((w, h, set())))
                for sign in (-1, 1):
                    self.assertEqual(calls(shift, sign * w, 0, encode(sheet)), empty)
                    self.assertEqual(calls(shift, 0, sign * h, encode(sheet)), empty)
                    self.check(sign * (w - 1), 0, sheet)
                    self.check(0, sign * (h - 1), sheet)
                    self.check(sign * (w - 1), sign * (1 - h), sheet)

    def test_one_column_and_one_row_are_left(self):
        full = encode((24, 24, set(places(24, 24))))
        for dx, dy, left in ((23, 0, {(23, y) for y in range(24)}), (-23, 0, {(0, y) for y in range(24)}),
                             (0, 23, {(x, 23) for x in range(24)}), (0, -23, {(x, 0) for x in range(24)}),
                             (23, -23, {(23, 0)}), (-23, 23, {(0, 23)})):
            self.assertEqual(calls(shift, dx, dy, full), bytes_answer(encode((24, 24, left))))

    def test_what_comes_off_is_lost(self):
        full = (5, 4, set(places(5, 4)))
        there = told_bytes(shift(2, -1, encode(full)))
        left = {(x, y) for x, y in full[2] if x < 3 and y > 0}
        self.assertEqual(calls(shift, -2, 1, there), bytes_answer(encode((5, 4, left))))

    def test_bits_behind_the_last_dot_stay_0(self):
        for w in range(1, 25):
            full = (w, 2, set(places(w, 2)))
            for dx in (1, 7, 8, 9, 23):
                self.check(dx, 0, full)

    def test_numbers_out_of_their_bounds(self):
        for far in TOO_FAR:
            for near in (-24, -1, 0, 1, 24, far):
                self.assertEqual(calls(shift, far, near, GOOD), [-1, 0, 0])
                self.assertEqual(calls(shift, near, far, GOOD), [-1, 0, 0])
        self.assertEqual(calls(shift, LEAST_SIGNED, GREATEST_SIGNED, GOOD), [-1, 0, 0])
        for near in (-24, 24):
            self.assertEqual(calls(shift, near, near, GOOD), [6, 6, 3, 0, 2, 0, 0, 0, 0])

    def test_faults_come_before_bounds(self):
        for a, told in refused_bytes():
            for dx, dy in ((0, 0), (24, -24), (25, 0), (0, -25), (LEAST_SIGNED, GREATEST_SIGNED)):
                self.assertEqual(calls(shift, dx, dy, a), told)


class Cut(unittest.TestCase):
    def check(self, x, y, w, h, sheet):
        with self.subTest(x=x, y=y, w=w, h=h, sheet=sheet):
            self.assertEqual(calls(cut, x, y, w, h, encode(sheet)),
                             bytes_answer(encode(cut_out(x, y, w, h, sheet))))

    def test_the_whole_answer(self):
        self.assertEqual(calls(cut, 1, 0, 2, 2, GOOD), [6, 6, 2, 0, 2, 0, 2, 1, 0])
        self.assertEqual(calls(cut, 0, 1, 3, 1, GOOD), [5, 5, 3, 0, 1, 0, 2, 0])

    def test_drawn(self):
        a = encode(from_picture("##.......#", ".#.....#..", "........##"))
        self.assertEqual(calls(cut, 1, 1, 8, 2, a), bytes_answer(encode(from_picture("#.....#.", ".......#"))))

    def test_the_whole_sheet(self):
        for sheet in many_sheets():
            a = encode(sheet)
            self.assertEqual(calls(cut, 0, 0, sheet[0], sheet[1], a), bytes_answer(a))

    def test_one_dot_in_each_corner(self):
        for w, h in ((1, 1), (1, 24), (24, 1), (24, 24), (9, 3)):
            for x in (0, w - 1):
                for y in (0, h - 1):
                    self.assertEqual(calls(cut, x, y, 1, 1, encode((w, h, {(x, y)}))), [5, 5, 1, 0, 1, 0, 1, 0])
                    lacking = (w, h, set(places(w, h)) - {(x, y)})
                    self.assertEqual(calls(cut, x, y, 1, 1, encode(lacking)), [5, 5, 1, 0, 1, 0, 0, 0])

    def test_every_cut_of_a_small_sheet(self):
        for seed in range(3):
            sheet = mixed_sheet(5, 4, seed, 8)
            for x, y in places(6, 5):
                for w, h in places(7, 6):
                    if w == 0 or h == 0 or x + w > 5 or y + h > 4:
                        self.assertEqual(calls(cut, x, y, w, h, encode(sheet)), [-1, 0, 0])
                    else:
                        self.check(x, y, w, h, sheet)

    def test_across_the_bounds_of_bytes(self):
        for sheet in ((24, 24, set(places(24, 24))), mixed_sheet(24, 24, 6, 8)):
            for x in range(24):
                for w in range(1, 25 - x):
                    self.check(x, 23 - x, w, 1, sheet)
            for start in (7, 8, 9, 15, 16, 17):
                for size in (1, 2, 24 - start):
                    self.check(start, start, size, size, sheet)

    def test_tall_cuts(self):
        sheet = mixed_sheet(3, 24, 2, 8)
        for y in range(24):
            for h in range(1, 25 - y):
                self.check(1, y, 2, h, sheet)

    def test_w_or_h_0(self):
        for w, h in ((0, 0), (0, 1), (1, 0), (0, 2), (3, 0)):
            for x, y in ((0, 0), (3, 0), (0, 2), (3, 2)):
                self.assertEqual(calls(cut, x, y, w, h, GOOD), [-1, 0, 0])

    def test_at_the_width_and_height_and_one_above(self):
        for sheet in many_sheets():
            width, height, a = sheet[0], sheet[1], encode(sheet)
            self.check(width - 1, height - 1, 1, 1, sheet)
            for x in (0, width // 2, width - 1):
                self.check(x, 0, width - x, height, sheet)
                self.assertEqual(calls(cut, x, 0, width - x + 1, height, a), [-1, 0, 0])
            for y in (0, height // 2, height - 1):
                self.check(0, y, width, height - y, sheet)
                self.assertEqual(calls(cut, 0, y, width, height - y + 1, a), [-1, 0, 0])
            self.assertEqual(calls(cut, width, 0, 1, 1, a), [-1, 0, 0])
            self.assertEqual(calls(cut, 0, height, 1, 1, a), [-1, 0, 0])

    def test_great_numbers_alone_and_together(self):
        for great in TOO_GREAT:
            for pick in range(1, 16):
                given = [great if pick >> i & 1 else usual for i, usual in enumerate((0, 0, 1, 1))]
                self.assertEqual(calls(cut, *given, GOOD), [-1, 0, 0])
        # These sums would be small ones if numbers began anew behind the greatest.
        for x, w in ((GREATEST, 1), (GREATEST, 2), (1, GREATEST), (1 << 63, 1 << 63), (GREATEST - 1, 3)):
            self.assertEqual(calls(cut, x, 0, w, 1, GOOD), [-1, 0, 0])
            self.assertEqual(calls(cut, 0, x, 1, w, GOOD), [-1, 0, 0])
            self.assertEqual(calls(cut, x, x, w, w, GOOD), [-1, 0, 0])

    def test_faults_come_before_bounds(self):
        for a, told in refused_bytes():
            for given in ((0, 0, 1, 1), (0, 0, 0, 0), (3, 2, 1, 1), (0, 0, 25, 25), (GREATEST,) * 4):
                self.assertEqual(calls(cut, *given, a), told)


if __name__ == "__main__":
    unittest.main()
