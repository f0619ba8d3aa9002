"""spread and shrink: by the words, at the edges, and what is promised of both together."""

import unittest

from platehalldesk.hall import join, shrink, spread
from tests.helper import (GOOD, GREATEST, bytes_answer, calls, encode, every_sheet, from_picture, many_sheets,
                          mixed_sheet, places, refused_bytes, told_bytes)

TOO_FAR = (25, 26, 48, 255, 256, 1 << 32, 1 << 63, GREATEST - 1, GREATEST)
TOO_MUCH_OFF = (2, 3, 255, 256, 1 << 32, 1 << 63, GREATEST - 1, GREATEST)


def spread_by_the_words(d, sheet):
    w, h, dots = sheet
    told = {(x, y) for x, y in places(w, h) if any(abs(x - u) <= d and abs(y - v) <= d for u, v in dots)}
    return (w, h, told)


def shrunk_by_the_words(d, off, sheet):
    w, h, dots = sheet

    def has(u, v):
        return (u, v) in dots if 0 <= u < w and 0 <= v < h else off == 1

    told = {(x, y) for x, y in places(w, h)
            if all(has(u, v) for v in range(y - d, y + d + 1) for u in range(x - d, x + d + 1))}
    return (w, h, told)


def lacking(sheet):
    w, h, dots = sheet
    return (w, h, set(places(w, h)) - dots)


def within(a, b):
    """Whether all dots of the first are the second's."""
    return not any(told_bytes(join(2, a, b))[4:])


class Checks(unittest.TestCase):
    def spreads(self, d, sheet):
        with self.subTest(call="spread", d=d, sheet=sheet):
            self.assertEqual(calls(spread, d, encode(sheet)), bytes_answer(encode(spread_by_the_words(d, sheet))))

    def shrinks(self, d, off, sheet):
        with self.subTest(call="shrink", d=d, off=off, sheet=sheet):
            self.assertEqual(calls(shrink, d, off, encode(sheet)),
                             bytes_answer(encode(shrunk_by_the_words(d, off, sheet))))

    def all_three(self, d, sheet):
        self.spreads(d, sheet)
        self.shrinks(d, 0, sheet)
        self.shrinks(d, 1, sheet)

    def drawn(self, answer, *lines):
        self.assertEqual(answer, bytes_answer(encode(from_picture(*lines))))


class OrdinarySheets(Checks):
    def test_the_whole_answer(self):
        self.assertEqual(calls(spread, 1, [4, 0, 3, 0, 1, 0, 0]), [7, 7, 4, 0, 3, 0, 3, 3, 0, 0])
        self.assertEqual(calls(shrink, 1, 0, [3, 0, 3, 0, 7, 7, 7]), [7, 7, 3, 0, 3, 0, 0, 2, 0, 0])
        self.assertEqual(calls(shrink, 1, 1, [3, 0, 3, 0, 7, 7, 6]), [7, 7, 3, 0, 3, 0, 7, 4, 4, 0])

    def test_a_dot_spreads_to_its_round(self):
        sheet = encode(from_picture(".......", ".......", "...#...", ".......", "......."))
        self.drawn(calls(spread, 1, sheet), ".......", "..###..", "..###..", "..###..", ".......")
        self.drawn(calls(spread, 2, sheet), ".#####.", ".#####.", ".#####.", ".#####.", ".#####.")

    def test_dots_at_corners_and_edges_spread(self):
        sheet = encode(from_picture("#........", ".........", ".........", ".........", "....#...#"))
        self.drawn(calls(spread, 1, sheet), "##.......", "##.......", ".........", "...###.##", "...###.##")

    def test_a_dot_that_is_not_there_shrinks(self):
        sheet = encode(from_picture("#######", "#######", "###.###", "#######", "#######"))
        self.drawn(calls(shrink, 1, 1, sheet), "#######", "##...##", "##...##", "##...##", "#######")
        self.drawn(calls(shrink, 1, 0, sheet), ".......", ".#...#.", ".#...#.", ".#...#.", ".......")

    def test_dots_not_there_at_corners_and_edges(self):
        sheet = encode(from_picture(".####", "#####", "#####", "####."))
        self.drawn(calls(shrink, 1, 1, sheet), "..###", "..###", "###..", "###..")
        self.drawn(calls(shrink, 1, 0, sheet), ".....", "..##.", ".##..", ".....")

    def test_d_0_gives_the_sheet_again(self):
        for sheet in many_sheets():
            a = encode(sheet)
            self.assertEqual(calls(spread, 0, a), bytes_answer(a))
            self.assertEqual(calls(shrink, 0, 0, a), bytes_answer(a))
            self.assertEqual(calls(shrink, 0, 1, a), bytes_answer(a))

    def test_every_small_sheet(self):
        for w, h in ((3, 3), (1, 4), (4, 1), (4, 2)):
            for sheet in every_sheet(w, h):
                for d in (0, 1, 2):
                    self.all_three(d, sheet)

    def test_many(self):
        for sheet in many_sheets():
            for d in (1, 2, 3):
                self.all_three(d, sheet)

    def test_nearly_full_sheets(self):
        for w, h in ((24, 24), (9, 17), (16, 8)):
            for seed in range(3):
                for d in (1, 2):
                    self.all_three(d, mixed_sheet(w, h, seed, 15))
                    self.all_three(d, mixed_sheet(w, h, seed, 1))


class Edges(Checks):
    def test_one_dot_anywhere(self):
        for w, h in ((1, 1), (1, 24), (24, 1), (8, 2), (5, 4)):
            for place in places(w, h):
                for d in (1, 3, 7, 24):
                    self.all_three(d, (w, h, {place}))
                    self.all_three(d, lacking((w, h, {place})))

    def test_corners_of_the_largest_sheet(self):
        for place in ((0, 0), (23, 0), (0, 23), (23, 23), (12, 0), (0, 12), (23, 12), (12, 23)):
            for d in (1, 11, 12, 22, 23, 24):
                self.spreads(d, (24, 24, {place}))
                self.shrinks(d, 1, lacking((24, 24, {place})))

    def test_far_corners_are_23_apart(self):
        corner = encode((24, 24, {(0, 0)}))
        almost = (24, 24, {(x, y) for x, y in places(24, 24) if x < 23 and y < 23})
        self.assertEqual(calls(spread, 22, corner), bytes_answer(encode(almost)))
        full = encode((24, 24, set(places(24, 24))))
        self.assertEqual(calls(spread, 23, corner), bytes_answer(full))
        self.assertEqual(calls(spread, 24, corner), bytes_answer(full))

    def test_full_sheets_shrink_by_their_edge_if_off_is_0(self):
        for w, h in ((1, 1), (1, 24), (24, 1), (2, 2), (3, 3), (8, 9), (23, 24), (24, 24)):
            full = (w, h, set(places(w, h)))
            for d in (0, 1, 2, 4, 11, 12, 24):
                inner = {(x, y) for x, y in places(w, h) if d <= x < w - d and d <= y < h - d}
                self.assertEqual(calls(shrink, d, 0, encode(full)), bytes_answer(encode((w, h, inner))))
                self.assertEqual(calls(shrink, d, 1, encode(full)), bytes_answer(encode(full)))

    def test_empty_sheets_stay_empty(self):
        for w, h in ((1, 1), (1, 24), (24, 1), (24, 24)):
            empty = encode((w, h, set()))
            for d in (0, 1, 24):
                self.assertEqual(calls(spread, d, empty), bytes_answer(empty))
                self.assertEqual(calls(shrink, d, 0, empty), bytes_answer(empty))
                self.assertEqual(calls(shrink, d, 1, empty), bytes_answer(empty))


class Promises(Checks):
    def test_spread_by_c_and_then_by_d_as_by_both(self):
        for sheet in many_sheets():
            a = encode(sheet)
            for c, d in ((0, 3), (1, 1), (2, 3), (5, 4), (12, 12), (1, 23)):
                self.assertEqual(spread(d, told_bytes(spread(c, a))), spread(c + d, a))

    def test_shrunk_by_c_and_then_by_d_as_by_both(self):
        for sheet in many_sheets():
            for a in (encode(sheet), encode(lacking(sheet))):
                for c, d in ((0, 3), (1, 1), (2, 3), (5, 4), (12, 12), (1, 23)):
                    for off in (0, 1):
                        self.assertEqual(shrink(d, off, told_bytes(shrink(c, off, a))), shrink(c + d, off, a))

    def test_what_it_has_not_spread(self):
        for sheet in many_sheets():
            full = encode((sheet[0], sheet[1], set(places(sheet[0], sheet[1]))))
            for d in (0, 1, 2, 8, 24):
                shrunk = told_bytes(shrink(d, 1, encode(sheet)))
                self.assertEqual(spread(d, encode(lacking(sheet))), join(2, full, shrunk))

    def test_spread_stays_within_just_if_it_was_within_what_is_shrunk(self):
        seen = set()
        for first in every_sheet(3, 2):
            for second in every_sheet(3, 2):
                a, b = encode(first), encode(second)
                for d in (0, 1, 2):
                    spread_within = within(told_bytes(spread(d, a)), b)
                    self.assertEqual(spread_within, within(a, told_bytes(shrink(d, 1, b))))
                    seen.add(spread_within)
        self.assertEqual(seen, {True, False})


class Refusals(Checks):
    def test_d_24_is_taken_and_25_is_not(self):
        self.assertEqual(calls(spread, 24, GOOD), bytes_answer([3, 0, 2, 0, 7, 7]))
        self.assertEqual(calls(shrink, 24, 0, GOOD), bytes_answer([3, 0, 2, 0, 0, 0]))
        self.assertEqual(calls(shrink, 24, 1, [3, 0, 2, 0, 7, 7]), bytes_answer([3, 0, 2, 0, 7, 7]))
        for d in TOO_FAR:
            self.assertEqual(calls(spread, d, GOOD), [-1, 0, 0])
            self.assertEqual(calls(shrink, d, 0, GOOD), [-1, 0, 0])
            self.assertEqual(calls(shrink, d, 1, GOOD), [-1, 0, 0])

    def test_off_above_1(self):
        for off in TOO_MUCH_OFF:
            for d in (0, 1, 24, 25, GREATEST):
                self.assertEqual(calls(shrink, d, off, GOOD), [-1, 0, 0])

    def test_faults_come_before_bounds(self):
        for a, told in refused_bytes():
            for d in (0, 1, 24, 25, GREATEST):
                self.assertEqual(calls(spread, d, a), told)
                for off in (0, 1, 2, GREATEST):
                    self.assertEqual(calls(shrink, d, off, a), told)


if __name__ == "__main__":
    unittest.main()
