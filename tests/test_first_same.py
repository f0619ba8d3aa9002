"""first and same: the first dot from a place on, and the first one that just one of two sheets has."""

import unittest

from platehalldesk.hall import first, join, judge, same
from tests.helper import (BAD_BIT, BAD_END, GOOD, GREATEST, LONG, OTHER_HEIGHT, OTHER_WIDTH, calls, encode,
                          every_sheet, fault, from_picture, many_sheets, mixed_sheet, places, refusal, refused_bytes,
                          told_bytes)


def first_by_the_words(from_place, sheet):
    w, h, dots = sheet
    if from_place >= w * h:
        return [-1, 0, 0]
    numbers = [y * w + x for x, y in dots if y * w + x >= from_place]
    return [min(numbers), 0, 0] if numbers else [-4, 0, 0]


def same_by_the_words(one, two):
    for place in places(one[0], one[1]):
        if (place in one[2]) != (place in two[2]):
            return [0, 0, 2, place[0], place[1]]
    return [1, 0, 0]


class First(unittest.TestCase):
    def check(self, from_place, sheet):
        with self.subTest(from_place=from_place, sheet=sheet):
            self.assertEqual(calls(first, from_place, encode(sheet)), first_by_the_words(from_place, sheet))

    def test_the_whole_answer(self):
        # GOOD has the places 0, 2 and 4 of 6.
        for from_place, told in enumerate((0, 2, 2, 4, 4)):
            self.assertEqual(calls(first, from_place, GOOD), [told, 0, 0])
        self.assertEqual(calls(first, 5, GOOD), [-4, 0, 0])
        self.assertEqual(calls(first, 6, GOOD), [-1, 0, 0])

    def test_numbers_go_by_the_width(self):
        a = encode(from_picture("..........", "........#.", "#........."))
        self.assertEqual(calls(first, 0, a), [18, 0, 0])
        self.assertEqual(calls(first, 18, a), [18, 0, 0])
        self.assertEqual(calls(first, 19, a), [20, 0, 0])
        self.assertEqual(calls(first, 21, a), [-4, 0, 0])
        self.assertEqual(calls(first, 29, a), [-4, 0, 0])
        self.assertEqual(calls(first, 30, a), [-1, 0, 0])

    def test_an_upper_row_comes_before_a_place_further_left(self):
        a = encode(from_picture("...#", "#..."))
        self.assertEqual(calls(first, 0, a), [3, 0, 0])
        self.assertEqual(calls(first, 4, a), [4, 0, 0])

    def test_every_small_sheet_from_every_place(self):
        for w, h in ((3, 2), (1, 4), (4, 1)):
            for sheet in every_sheet(w, h):
                for from_place in range(w * h + 2):
                    self.check(from_place, sheet)

    def test_many(self):
        for sheet in many_sheets():
            w, h, dots = sheet
            for from_place in sorted({0, 1, w - 1, w, w * h // 2, w * h - 2, w * h - 1, w * h, w * h + 1}):
                if from_place >= 0:
                    self.check(from_place, sheet)

    def test_none_all_and_only_the_last(self):
        for w, h in ((1, 1), (1, 24), (24, 1), (24, 24), (9, 5), (8, 3)):
            last = w * h - 1
            none, full = encode((w, h, set())), encode((w, h, set(places(w, h))))
            only_last = encode((w, h, {(w - 1, h - 1)}))
            for from_place in sorted({0, last // 2, last}):
                self.assertEqual(calls(first, from_place, none), [-4, 0, 0])
                self.assertEqual(calls(first, from_place, full), [from_place, 0, 0])
                self.assertEqual(calls(first, from_place, only_last), [last, 0, 0])
            for a in (none, full, only_last):
                for from_place in (w * h, w * h + 1, 576, 577, 1 << 32, 1 << 63, GREATEST - 1, GREATEST):
                    if from_place >= w * h:
                        self.assertEqual(calls(first, from_place, a), [-1, 0, 0])

    def test_from_a_dot_and_from_just_behind_the_last(self):
        for w, h in ((24, 24), (17, 9), (5, 3)):
            sheet = mixed_sheet(w, h, 8, 3)
            sheet[2].discard((w - 1, h - 1))
            numbers = sorted(y * w + x for x, y in sheet[2])
            for number in numbers:
                self.assertEqual(calls(first, number, encode(sheet)), [number, 0, 0])
            self.assertEqual(calls(first, numbers[-1] + 1, encode(sheet)), [-4, 0, 0])

    def test_going_through_meets_each_dot_once(self):
        for sheet in many_sheets():
            a, met, place = encode(sheet), 0, 0
            while place < sheet[0] * sheet[1]:
                told = first(place, a)
                if told == [-4, 0, 0]:
                    break
                met, place = met + 1, told[0] + 1
            self.assertEqual(met, judge(a)[-1])

    def test_faults_come_before_bounds(self):
        for a, told in refused_bytes():
            for from_place in (0, 5, 6, GREATEST):
                self.assertEqual(calls(first, from_place, a), told)


class Same(unittest.TestCase):
    def check(self, one, two):
        with self.subTest(one=one, two=two):
            self.assertEqual(calls(same, encode(one), encode(two)), same_by_the_words(one, two))

    def test_the_whole_answer(self):
        self.assertEqual(calls(same, GOOD, list(GOOD)), [1, 0, 0])
        self.assertEqual(calls(same, GOOD, [3, 0, 2, 0, 5, 3]), [0, 0, 2, 0, 1])
        self.assertEqual(calls(same, GOOD, [3, 0, 2, 0, 1, 3]), [0, 0, 2, 2, 0])

    def test_sheets_alike(self):
        for sheet in many_sheets():
            self.assertEqual(calls(same, encode(sheet), encode(sheet)), [1, 0, 0])

    def test_one_list_handed_in_twice(self):
        for sheet in many_sheets():
            a = encode(sheet)
            self.assertEqual(same(a, a), [1, 0, 0])
            self.assertEqual(a, encode(sheet))

    def test_just_one_place_differs(self):
        for w, h in ((1, 1), (1, 24), (24, 1), (9, 3), (24, 24)):
            sheet = mixed_sheet(w, h, 2, 8)
            for place in places(w, h):
                other = (w, h, sheet[2] ^ {place})
                self.assertEqual(calls(same, encode(sheet), encode(other)), [0, 0, 2, place[0], place[1]])
                self.assertEqual(calls(same, encode(other), encode(sheet)), [0, 0, 2, place[0], place[1]])

    def test_of_several_the_first_by_y_then_by_x(self):
        empty = (20, 5, set())
        for dots, told in (
                ({(19, 1), (0, 2)}, [19, 1]),
                ({(3, 1), (17, 1), (0, 4)}, [3, 1]),
                ({(9, 3), (8, 3), (7, 4)}, [8, 3]),
                ({(0, 0), (19, 4)}, [0, 0])):
            self.assertEqual(calls(same, encode(empty), encode((20, 5, dots))), [0, 0, 2] + told)
            self.assertEqual(calls(same, encode((20, 5, dots)), encode(empty)), [0, 0, 2] + told)

    def test_each_has_one_that_the_other_has_not(self):
        one, two = encode(from_picture("...", "#..")), encode(from_picture("..#", "..."))
        self.assertEqual(calls(same, one, two), [0, 0, 2, 2, 0])
        self.assertEqual(calls(same, two, one), [0, 0, 2, 2, 0])

    def test_every_pair_of_small_sheets(self):
        for one in every_sheet(3, 2):
            for two in every_sheet(3, 2):
                self.check(one, two)

    def test_many(self):
        for number, one in enumerate(many_sheets()):
            self.check(one, mixed_sheet(one[0], one[1], 300 + number, 8))

    def test_the_first_that_just_one_has_as_join_tells_it(self):
        for number, one in enumerate(many_sheets()):
            a, b = encode(one), encode(mixed_sheet(one[0], one[1], 400 + number))
            place = first(0, told_bytes(join(3, a, b)))[0]
            self.assertEqual(same(a, b), [1, 0, 0] if place == -4 else [0, 0, 2, place % one[0], place // one[0]])

    def test_not_of_one_size(self):
        for other in (OTHER_WIDTH, OTHER_HEIGHT, encode((2, 3, set())), encode((24, 24, set()))):
            self.assertEqual(calls(same, GOOD, other), [-5, 0, 0])
            self.assertEqual(calls(same, other, GOOD), [-5, 0, 0])
        self.assertEqual(calls(same, encode((1, 24, set())), encode((24, 1, set()))), [-5, 0, 0])
        # The same dots, on sheets of which one is higher or wider by one.
        self.assertEqual(calls(same, encode((7, 3, {(2, 2)})), encode((8, 3, {(2, 2)}))), [-5, 0, 0])
        self.assertEqual(calls(same, encode((7, 3, {(2, 2)})), encode((7, 4, {(2, 2)}))), [-5, 0, 0])

    def test_fault_of_one(self):
        for bad, told in refused_bytes():
            for good in (GOOD, OTHER_WIDTH, OTHER_HEIGHT):
                self.assertEqual(calls(same, bad, good), told)
                of_second = told if told[0] == -2 else fault(told[3] + 16, told[4])
                self.assertEqual(calls(same, good, bad), of_second)

    def test_fault_of_both(self):
        self.assertEqual(calls(same, BAD_BIT, BAD_END), [-6, 0, 2, 3, 4])
        self.assertEqual(calls(same, BAD_END, BAD_BIT), [-6, 0, 2, 1, 5])
        self.assertEqual(calls(same, BAD_BIT, BAD_BIT), [-6, 0, 2, 3, 4])
        self.assertEqual(calls(same, GOOD + [1], []), fault(4, 6))
        self.assertEqual(calls(same, [], [0, 0]), fault(1, 0))

    def test_too_many_bytes_come_before_a_fault_of_the_other(self):
        for other in (GOOD, OTHER_WIDTH, OTHER_HEIGHT, BAD_BIT, BAD_END, [], LONG, [255] * 5000):
            self.assertEqual(calls(same, LONG, other), refusal(-2))
            self.assertEqual(calls(same, other, LONG), refusal(-2))

    def test_4096_bytes_are_not_too_many(self):
        self.assertEqual(calls(same, LONG[:4096], GOOD), fault(4, 6))
        self.assertEqual(calls(same, GOOD, LONG[:4096]), fault(20, 6))


if __name__ == "__main__":
    unittest.main()
