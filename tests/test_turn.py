"""turn: the eight of them by the words, and that they make up a whole together."""

import unittest

from platehalldesk.hall import turn
from tests.helper import (GOOD, GREATEST, bytes_answer, calls, encode, every_sheet, from_picture, many_sheets,
                          mixed_sheet, places, refused_bytes, told_bytes)

TOO_MUCH = (8, 9, 10, 12, 15, 16, 255, 256, 1 << 32, 1 << 63, GREATEST - 7, GREATEST - 1, GREATEST)

EIGHT = (
    ("##.", "..."),
    ("#.", "#.", ".."),
    (".##", "..."),
    (".#", ".#", ".."),
    ("...", "##."),
    ("..", "#.", "#."),
    ("...", ".##"),
    ("..", ".#", ".#"),
)


def turned(how, sheet):
    """By the words: step by step, each of the sheet as it stands by then."""
    w, h, dots = sheet
    if how in (1, 3, 5, 7):
        w, h, dots = h, w, {(y, x) for x, y in dots}
    if how in (2, 3, 6, 7):
        dots = {(w - 1 - x, y) for x, y in dots}
    if how in (4, 5, 6, 7):
        dots = {(x, h - 1 - y) for x, y in dots}
    return (w, h, dots)


def uneven_sheets():
    """Sheets of which all eight turns differ."""
    yield encode((2, 3, {(0, 0), (0, 1)}))
    yield encode((3, 2, {(0, 0), (1, 0)}))
    for w, h in ((9, 4), (5, 5), (24, 23), (24, 24)):
        yield encode((w, h, {(0, 0), (1, 0)}))
        yield encode(mixed_sheet(w, h, 11, 5))


class Turns(unittest.TestCase):
    def check(self, how, sheet):
        with self.subTest(how=how, sheet=sheet):
            self.assertEqual(calls(turn, how, encode(sheet)), bytes_answer(encode(turned(how, sheet))))

    def test_the_whole_answer(self):
        self.assertEqual(calls(turn, 0, GOOD), [6, 6, 3, 0, 2, 0, 5, 2, 0])
        self.assertEqual(calls(turn, 1, GOOD), [7, 7, 2, 0, 3, 0, 1, 2, 1, 0])
        self.assertEqual(calls(turn, 2, [3, 0, 2, 0, 1, 6]), [6, 6, 3, 0, 2, 0, 4, 3, 0])
        self.assertEqual(calls(turn, 4, GOOD), [6, 6, 3, 0, 2, 0, 2, 5, 0])

    def test_all_eight_drawn(self):
        sheet = encode(from_picture(*EIGHT[0]))
        for how, lines in enumerate(EIGHT):
            self.assertEqual(calls(turn, how, sheet), bytes_answer(encode(from_picture(*lines))), how)

    def test_each_dot_alone(self):
        for w, h in ((5, 3), (1, 4), (4, 1), (9, 2), (2, 17), (24, 1), (1, 24)):
            for place in places(w, h):
                for how in range(8):
                    self.check(how, (w, h, {place}))

    def test_every_small_sheet(self):
        for w, h in ((3, 2), (2, 4)):
            for sheet in every_sheet(w, h):
                for how in range(8):
                    self.check(how, sheet)

    def test_many(self):
        for sheet in many_sheets():
            for how in range(8):
                self.check(how, sheet)

    def test_bits_behind_the_last_dot_stay_0(self):
        for w in range(1, 25):
            h = 25 - w
            full = encode((w, h, set(places(w, h))))
            crossed = encode((h, w, set(places(h, w))))
            for how in range(8):
                self.assertEqual(calls(turn, how, full), bytes_answer(crossed if how % 2 else full))


class Together(unittest.TestCase):
    def test_the_eight_differ(self):
        for a in uneven_sheets():
            self.assertEqual(len({tuple(turn(how, a)) for how in range(8)}), 8)

    def test_any_two_are_one(self):
        for one in range(8):
            for two in range(8):
                as_both = set()
                for a in uneven_sheets():
                    both = turn(two, told_bytes(turn(one, a)))
                    alike = [how for how in range(8) if turn(how, a) == both]
                    self.assertEqual(len(alike), 1)
                    as_both.add(alike[0])
                self.assertEqual(len(as_both), 1, (one, two))

    def test_each_has_its_way_back(self):
        for how, back in enumerate((0, 1, 2, 5, 4, 3, 6, 7)):
            for sheet in many_sheets():
                a = encode(sheet)
                self.assertEqual(calls(turn, back, told_bytes(turn(how, a))), bytes_answer(a))


class Refusals(unittest.TestCase):
    def test_how_above_7(self):
        for how in TOO_MUCH:
            self.assertEqual(calls(turn, how, GOOD), [-1, 0, 0])
            self.assertEqual(calls(turn, how, [24, 0, 24, 0] + [255] * 72), [-1, 0, 0])

    def test_faults_come_before_bounds(self):
        for a, told in refused_bytes():
            for how in (0, 1, 7, 8, GREATEST):
                self.assertEqual(calls(turn, how, a), told)


if __name__ == "__main__":
    unittest.main()
