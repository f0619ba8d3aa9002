"""rank and table: the order of a screen's classes by each way, and the screens that are none."""

import unittest

from platehalldesk.hall import cell, class_number, rank, table
from tests.helper import (GREATEST, GREATEST_SIGNED, LEAST_SIGNED, NO_SLOPES, TOO_GREAT, calls, cell_numbers,
                          class_places, far_by_words, lattice_places, rank_by_words, ranks_by_words, screens, slopes)

EDGES = (LEAST_SIGNED, LEAST_SIGNED + 1, -1, 0, 1, GREATEST_SIGNED - 1, GREATEST_SIGNED)


class WholeAnswers(unittest.TestCase):
    def test_tables_reckoned_by_hand(self):
        # (2, 0): far by way 0: 0, 1, 1, 2; by way 1: 0, 1, 1, 2; by way 2 |2 y - 4 m|: 0, 0, 2, 2.
        self.assertEqual(calls(table, 2, 0, 0), [4, 0, 4, 0, 1, 2, 3])
        self.assertEqual(calls(table, 2, 0, 1), [4, 0, 4, 0, 1, 2, 3])
        self.assertEqual(calls(table, 2, 0, 2), [4, 0, 4, 0, 1, 2, 3])
        # (1, 2): places (0, 0) to (4, 0); by ways 0 and 1 all but the first are 1 far; by way 2 |-2 x - 5 m|.
        self.assertEqual(calls(table, 1, 2, 0), [5, 0, 5, 0, 1, 2, 3, 4])
        self.assertEqual(calls(table, 1, 2, 1), [5, 0, 5, 0, 1, 2, 3, 4])
        self.assertEqual(calls(table, 1, 2, 2), [5, 0, 5, 0, 3, 1, 2, 4])
        # (3, 0): rows of 3; by way 0 the corners are 2 far, by way 2 rows 1 and 2 are as far.
        self.assertEqual(calls(table, 3, 0, 0), [9, 0, 9, 0, 1, 2, 3, 5, 6, 4, 7, 8])
        self.assertEqual(calls(table, 3, 0, 2), [9, 0, 9, 0, 1, 2, 3, 4, 5, 6, 7, 8])
        # (2, 2): by way 0 far are 0 1 4 1 and, in row 1, 1 2 1 2; by way 1 0 1 2 1 and 1 2 1 2.
        self.assertEqual(calls(table, 2, 2, 0), [8, 0, 8, 0, 1, 7, 2, 3, 5, 4, 6])
        self.assertEqual(calls(table, 2, 2, 1), [8, 0, 8, 0, 1, 5, 2, 3, 6, 4, 7])

    def test_one_class_alone(self):
        for way in range(3):
            self.assertEqual(calls(table, 1, 0, way), [1, 0, 1, 0])
            for x in EDGES:
                for y in EDGES:
                    self.assertEqual(calls(rank, 1, 0, way, x, y), [0, 0, 0])

    def test_ranks_reckoned_by_hand(self):
        # (2, 2): (-1, 0) is (3, 0) moved by (-4, 0); (1, -1) is (3, 1) moved by (-2, -2); (2, -2) is on the lattice.
        for x, y, place in ((0, 0, 0), (2, 0, 7), (-1, 0, 2), (1, -1, 6), (2, -2, 0), (-2, -2, 0), (0, 2, 7)):
            self.assertEqual(calls(rank, 2, 2, 0, x, y), [place, 0, 0], (x, y))


class Ranks(unittest.TestCase):
    def test_every_class_of_every_screen(self):
        for a, b, way in screens():
            ranks = ranks_by_words(a, b, way)
            told = [rank(a, b, way, x, y) for x, y in class_places(a, b)]
            self.assertEqual(told, [[place, 0, 0] for place in ranks], (a, b, way))

    def test_the_same_wherever_the_class_lies(self):
        for a, b, way in screens():
            ranks = ranks_by_words(a, b, way)
            moves = lattice_places(a, b, (-1000003, -3, 0, 2, 1 << 40))
            for number, (x, y) in enumerate(class_places(a, b)):
                s, t = moves[number * 7 % len(moves)]
                self.assertEqual(rank(a, b, way, x + s, y + t), [ranks[number], 0, 0], (a, b, way, x + s, y + t))

    def test_nearer_classes_come_first(self):
        # Straight from how far the places are, with no order reckoned in the test.
        for a, b, way in screens():
            by_place = {rank(a, b, way, x, y)[0]: far_by_words(a, b, way, x, y) for x, y in class_places(a, b)}
            in_order = [by_place[place] for place in sorted(by_place)]
            self.assertEqual(in_order, sorted(in_order), (a, b, way))

    def test_of_as_far_ones_the_lesser_number_comes_first(self):
        met = 0
        for a, b, way in screens():
            of_far = {}
            for x, y in class_places(a, b):
                of_far.setdefault(far_by_words(a, b, way, x, y), []).append(rank(a, b, way, x, y)[0])
            for ranks in of_far.values():
                self.assertEqual(ranks, list(range(ranks[0], ranks[0] + len(ranks))), (a, b, way))
                met += len(ranks) - 1
        self.assertGreater(met, 1000)

    def test_the_lattice_itself_has_rank_0(self):
        for a, b, way in screens():
            for x, y in lattice_places(a, b, (-9, 0, 4)):
                self.assertEqual(rank(a, b, way, x, y), [0, 0, 0], (a, b, way, x, y))

    def test_the_ways_differ(self):
        self.assertNotEqual(ranks_by_words(3, 1, 0), ranks_by_words(3, 1, 2))
        self.assertNotEqual(ranks_by_words(2, 2, 0), ranks_by_words(2, 2, 1))
        for a, b in slopes():
            told = [table(a, b, way)[3:] for way in range(3)]
            self.assertEqual(told, [ranks_by_words(a, b, way) for way in range(3)], (a, b))

    def test_places_below_0(self):
        for a, b, way in screens():
            for x, y in ((-1, 0), (0, -1), (-1, -1), (-7, 3), (5, -8), (-63, -64), (-100, -1)):
                self.assertEqual(rank(a, b, way, x, y), [rank_by_words(a, b, way, x, y), 0, 0], (a, b, way, x, y))

    def test_the_least_and_the_greatest_places(self):
        for a, b in slopes()[::3]:
            for way in range(3):
                for x in EDGES:
                    for y in EDGES:
                        place = rank_by_words(a, b, way, x, y)
                        self.assertEqual(rank(a, b, way, x, y), [place, 0, 0], (a, b, way, x, y))
        for a, b, way in screens():
            for x, y in ((LEAST_SIGNED, GREATEST_SIGNED), (GREATEST_SIGNED, LEAST_SIGNED)):
                self.assertEqual(calls(rank, a, b, way, x, y), [rank_by_words(a, b, way, x, y), 0, 0], (a, b, way))


class Tables(unittest.TestCase):
    def test_every_screen(self):
        for a, b, way in screens():
            n = a * a + b * b
            self.assertEqual(calls(table, a, b, way), [n, 0, n] + ranks_by_words(a, b, way), (a, b, way))

    def test_just_n_ranks_each_once(self):
        for a, b, way in screens():
            n, p, g = cell_numbers(a, b)
            told = table(a, b, way)
            self.assertEqual(told[:3], [cell(a, b)[0], 0, n])
            self.assertEqual(sorted(told[3:]), list(range(n)), (a, b, way))

    def test_what_rank_tells_of_each_class(self):
        for a, b, way in screens():
            n, p, g = cell_numbers(a, b)
            told = table(a, b, way)[3:]
            for x, y in class_places(a, b):
                number = class_number(a, b, x, y)[0]
                self.assertEqual([told[number], 0, 0], rank(a, b, way, x, y), (a, b, way, x, y))


class Refusals(unittest.TestCase):
    def both(self, a, b, way):
        self.assertEqual(calls(table, a, b, way), [-1, 0, 0], (a, b, way))
        for x, y in ((0, 0), (LEAST_SIGNED, GREATEST_SIGNED)):
            self.assertEqual(calls(rank, a, b, way, x, y), [-1, 0, 0], (a, b, way))

    def test_slopes_that_are_none(self):
        for a, b in NO_SLOPES:
            for way in range(3):
                self.both(a, b, way)

    def test_ways_above_2(self):
        for way in (3, 4, 5, 8, 255, 256, 1 << 32, 1 << 33, 1 << 63, GREATEST):
            for a, b in ((1, 0), (3, 1), (8, 0), (0, 0), (9, 9)):
                self.both(a, b, way)

    def test_every_small_number(self):
        good = screens()
        for a in range(10):
            for b in range(10):
                for way in range(5):
                    if (a, b, way) not in good:
                        self.assertEqual(table(a, b, way), [-1, 0, 0], (a, b, way))
                        self.assertEqual(rank(a, b, way, 1, 1), [-1, 0, 0], (a, b, way))
                    else:
                        self.assertEqual(table(a, b, way)[0], a * a + b * b)

    def test_great_numbers(self):
        for great in TOO_GREAT:
            for a, b, way in ((great, 0, 0), (1, great, 1), (1, 0, great), (great, great, 2), (great, 1, great),
                              (2, great, great), (great, great, great)):
                self.both(a, b, way)


if __name__ == "__main__":
    unittest.main()
