"""What the document promises over the whole program: a class of tests for each of its sentences."""

import unittest

from platehalldesk.hall import (cell, class_number, count, cut, draw, first, join, judge, rank, read, same, shift,
                                shrink, spread, table, tint, tone, turn)
from tests.helper import (GOOD, GREATEST_SIGNED, LEAST_SIGNED, calls, encode, every_sheet, many_sheets, mixed_sheet,
                          screens, told_bytes)

EITHER, BOTH, FIRST_ALONE, JUST_ONE = range(4)


def some_sheets():
    return [encode(sheet) for sheet in many_sheets()]


def joined(how, a, b):
    return told_bytes(join(how, a, b))


def within(a, b):
    """Whether all dots that the first sheet has are the second's too."""
    return judge(joined(FIRST_ALONE, a, b))[5] == 0


def others(a):
    """The sheet of the dots that this one hasn't."""
    w, h = a[0], a[2]
    return joined(FIRST_ALONE, told_bytes(tint(1, 0, 0, 1, 0, 0, w, h)), a)


class TheSentenceThatCarriesIt(unittest.TestCase):
    def test_spread_stays_within_a_sheet_just_if_it_was_within_what_is_shrunk_of_it(self):
        sheets = [encode(sheet) for sheet in every_sheet(3, 2)]
        for d in (0, 1, 2, 24):
            spreads = [told_bytes(spread(d, a)) for a in sheets]
            shrunk = [told_bytes(shrink(d, 1, a)) for a in sheets]
            for number in range(0, len(sheets), 3):
                for other in range(len(sheets)):
                    stays = within(spreads[number], sheets[other])
                    self.assertEqual(stays, within(sheets[number], shrunk[other]), (d, number, other))

    def test_greater_sheets(self):
        met = {True: 0, False: 0}
        for seed in range(60):
            b = encode(mixed_sheet(20, 17, seed, 15))
            for d in (1, 2):
                most = told_bytes(shrink(d, 1, b))
                # Some of what's shrunk; and the same with a few dots more.
                a = joined(BOTH, most, encode(mixed_sheet(20, 17, seed + 100, 9)))
                for tried in (a, most, joined(EITHER, a, encode(mixed_sheet(20, 17, seed + 200, 1)))):
                    stays = within(told_bytes(spread(d, tried)), b)
                    self.assertEqual(stays, within(tried, most), (seed, d))
                    met[stays] += 1
        self.assertGreater(min(met.values()), 50)

    def test_just_so_many_dots_in_each_whole_cell(self):
        for a, b, way in screens():
            n, p, g = cell(a, b)[3:]
            for t in sorted({0, 1, n // 3, n - 1, n}):
                for x, y in ((0, 0), (1, 1), (-7, 2), (5, -100), (LEAST_SIGNED, GREATEST_SIGNED)):
                    self.assertEqual(count(a, b, way, t, x, y, p, g), [t, 0, 0], (a, b, way, t, x, y))
                    if p <= 24:
                        dots = judge(told_bytes(tint(a, b, way, t, x, y, p, g)))[5]
                        self.assertEqual(dots, t, (a, b, way, t, x, y))


class BytesAndDrawingsTellOneSheet(unittest.TestCase):
    def test_there_and_back(self):
        for a in some_sheets():
            self.assertEqual(told_bytes(read(told_bytes(draw(a)))), a)

    def test_other_sheets_have_other_bytes_and_drawings(self):
        all_bytes = set()
        all_drawings = set()
        for w, h in ((1, 1), (2, 1), (1, 2), (3, 2), (2, 3), (6, 1)):
            for sheet in every_sheet(w, h):
                a = encode(sheet)
                self.assertEqual(told_bytes(read(told_bytes(draw(a)))), a)
                all_bytes.add(tuple(a))
                all_drawings.add(tuple(draw(a)))
        self.assertEqual((len(all_bytes), len(all_drawings)), (2 + 4 + 4 + 3 * 64, 2 + 4 + 4 + 3 * 64))


class Joined(unittest.TestCase):
    def test_either_is_both_and_just_one_together(self):
        sheets = [encode(sheet) for sheet in every_sheet(2, 2)]
        pairs = [(a, b) for a in sheets for b in sheets]
        pairs += [(encode(mixed_sheet(24, 9, seed)), encode(mixed_sheet(24, 9, seed + 50))) for seed in range(9)]
        for a, b in pairs:
            both = joined(BOTH, a, b)
            just_one = joined(JUST_ONE, a, b)
            self.assertEqual(joined(EITHER, both, just_one), joined(EITHER, a, b))
            self.assertEqual(judge(joined(BOTH, both, just_one))[5], 0)


class SpreadAndShrunk(unittest.TestCase):
    def test_by_c_and_then_by_d_as_by_both_together(self):
        for a in some_sheets():
            for c, d in ((0, 0), (0, 1), (1, 0), (1, 1), (1, 2), (3, 2), (5, 7), (12, 12), (24, 0)):
                twice = told_bytes(spread(d, told_bytes(spread(c, a))))
                self.assertEqual(twice, told_bytes(spread(c + d, a)), (c, d))
                for off in (0, 1):
                    twice = told_bytes(shrink(d, off, told_bytes(shrink(c, off, a))))
                    self.assertEqual(twice, told_bytes(shrink(c + d, off, a)), (c, d, off))

    def test_what_it_has_not_spread_is_what_it_has_not_of_itself_shrunk(self):
        for a in some_sheets() + [encode(sheet) for sheet in every_sheet(3, 3)]:
            for d in (0, 1, 2, 5, 24):
                self.assertEqual(told_bytes(spread(d, others(a))), others(told_bytes(shrink(d, 1, a))), d)


class Turns(unittest.TestCase):
    # By these, any two of the eight turns can be told apart.
    SHEETS = (encode((3, 3, {(0, 0), (1, 0)})), encode((3, 2, {(0, 0)})), encode((24, 7, {(0, 0), (20, 1), (3, 3)})))

    def test_any_two_are_one(self):
        for one in range(8):
            for other in range(8):
                as_one = [how for how in range(8)
                          if all(told_bytes(turn(other, told_bytes(turn(one, a)))) == told_bytes(turn(how, a))
                                 for a in self.SHEETS)]
                self.assertEqual(len(as_one), 1, (one, other))
                for a in some_sheets():
                    twice = told_bytes(turn(other, told_bytes(turn(one, a))))
                    self.assertEqual(twice, told_bytes(turn(as_one[0], a)), (one, other))

    def test_each_has_its_way_back(self):
        for how in range(8):
            back = [other for other in range(8)
                    if all(told_bytes(turn(other, told_bytes(turn(how, a)))) == a for a in self.SHEETS)]
            self.assertEqual(len(back), 1, how)
            for a in some_sheets():
                self.assertEqual(told_bytes(turn(back[0], told_bytes(turn(how, a)))), a)


class JustNRanks(unittest.TestCase):
    def test_each_once(self):
        for a, b, way in screens():
            n, p, g = cell(a, b)[3:]
            self.assertEqual(sorted(table(a, b, way)[3:]), list(range(n)), (a, b, way))
            met = [rank(a, b, way, x - 31, y + 44)[0] for y in range(g) for x in range(p)]
            self.assertEqual(sorted(met), list(range(n)), (a, b, way))


class LighterAndDarkerTones(unittest.TestCase):
    def test_a_lighter_ones_dots_are_a_darker_ones(self):
        for number, (a, b, way) in enumerate(screens()):
            n = a * a + b * b
            tints = [told_bytes(tint(a, b, way, t, number - 60, 3 - number, 10, 9)) for t in range(n + 1)]
            for lighter, darker in zip(tints, tints[1:]):
                self.assertTrue(within(lighter, darker), (a, b, way))
            self.assertTrue(within(tints[0], tints[n]))
            self.assertEqual([judge(tints[0])[5], judge(tints[n])[5]], [0, 90])


class WholeStretches(unittest.TestCase):
    def test_t_dots_for_each_n_places(self):
        for number, (a, b, way) in enumerate(screens()):
            n, p, g = cell(a, b)[3:]
            for t in sorted({0, 1, n // 2, n}):
                for across, down in ((1, 1), (2, 1), (1, 3), (5, 7), (1000000000 // p, 1000000000 // g), (0, 4)):
                    told = count(a, b, way, t, 17 - number, number * number, across * p, down * g)
                    self.assertEqual(told, [across * down * t, 0, 0], (a, b, way, t, across, down))


class StretchesSideBySide(unittest.TestCase):
    def test_their_counts_add_up(self):
        for number, (a, b, way) in enumerate(screens()):
            t = number % (a * a + b * b + 1)
            x, y, w, h = -number, 9 * number, 40, 30
            whole = count(a, b, way, t, x, y, w, h)[0]
            for split in (0, 1, 13, 29, 30):
                sides = count(a, b, way, t, x, y, split, h)[0] + count(a, b, way, t, x + split, y, w - split, h)[0]
                self.assertEqual(sides, whole, (a, b, way, split))
                sides = count(a, b, way, t, x, y, w, split)[0] + count(a, b, way, t, x, y + split, w, h - split)[0]
                self.assertEqual(sides, whole, (a, b, way, split))


class TonesOfTints(unittest.TestCase):
    def test_at_most_its_own_and_offsets_that_give_it_again(self):
        for number, (a, b, way) in enumerate(screens()):
            n, p, g = cell(a, b)[3:]
            for t in range(0, n + 1, 5):
                sheet = told_bytes(tint(a, b, way, t, 3 * number, -t, 8, 6))
                told = tone(a, b, way, sheet)
                self.assertTrue(0 <= told[0] <= t, (a, b, way, t))
                again = told_bytes(tint(a, b, way, told[0], told[3], told[4], 8, 6))
                self.assertEqual(same(again, sheet), [1, 0, 0], (a, b, way, t))


class EachCallStandsByItself(unittest.TestCase):
    CALLS = ((judge, GOOD), (draw, GOOD), (read, [35, 46, 10]), (join, 3, GOOD, [3, 0, 2, 0, 1, 7]), (spread, 1, GOOD),
             (shrink, 1, 1, GOOD), (turn, 5, GOOD), (shift, 1, -1, GOOD), (cut, 1, 0, 2, 2, GOOD), (first, 1, GOOD),
             (same, GOOD, [3, 0, 2, 0, 1, 7]), (cell, 4, 2), (class_number, 4, 2, -3, 5), (rank, 4, 2, 1, -3, 5),
             (table, 4, 2, 1), (tint, 4, 2, 1, 9, -3, 5, 10, 3), (count, 4, 2, 1, 9, -3, 5, 70, 80),
             (tone, 4, 2, 1, GOOD))

    def test_what_is_handed_in_stays_and_the_answer_is_as_if_for_the_first_time(self):
        told = [calls(*given) for given in self.CALLS]
        for given, before in zip(reversed(self.CALLS), reversed(told)):
            self.assertEqual(calls(*given), before, given[0].__name__)

    def test_answers_are_whole_lists(self):
        for function, *given in self.CALLS:
            told = function(*given)
            numbers_at = 2 + told[1]
            self.assertEqual(len(told), numbers_at + 1 + told[numbers_at], function.__name__)
            if told[1]:
                self.assertEqual(told[0], told[1], function.__name__)


if __name__ == "__main__":
    unittest.main()
