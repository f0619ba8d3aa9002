"""join: what either, both, the first alone and just one has."""

import unittest

from platehalldesk.hall import join
from tests.helper import (BAD_BIT, BAD_END, GOOD, GREATEST, LONG, OTHER_HEIGHT, OTHER_WIDTH, bytes_answer, calls,
                          encode, every_sheet, fault, from_picture, many_sheets, mixed_sheet, refusal)


def joined(how, first, second):
    """By the words: each dot asked for by itself."""
    w, h, dots = first
    told = set()
    for x in range(w):
        for y in range(h):
            one, two = (x, y) in dots, (x, y) in second[2]
            if [one or two, one and two, one and not two, one != two][how]:
                told.add((x, y))
    return (w, h, told)


class OrdinarySheets(unittest.TestCase):
    def test_the_whole_answer(self):
        one, two = [2, 0, 2, 0, 0b11, 0b00], [2, 0, 2, 0, 0b01, 0b01]
        self.assertEqual(calls(join, 0, one, two), [6, 6, 2, 0, 2, 0, 3, 1, 0])
        self.assertEqual(calls(join, 1, one, two), [6, 6, 2, 0, 2, 0, 1, 0, 0])
        self.assertEqual(calls(join, 2, one, two), [6, 6, 2, 0, 2, 0, 2, 0, 0])
        self.assertEqual(calls(join, 2, two, one), [6, 6, 2, 0, 2, 0, 0, 1, 0])
        self.assertEqual(calls(join, 3, one, two), [6, 6, 2, 0, 2, 0, 2, 1, 0])

    def test_wider_than_a_byte(self):
        one = from_picture("##.......#", ".........#")
        two = from_picture("#.#.....##", "#.........")
        for how, lines in enumerate((
                ("###.....##", "#........#"),
                ("#........#", ".........."),
                (".#........", ".........#"),
                (".##.....#.", "#........#"))):
            self.assertEqual(calls(join, how, encode(one), encode(two)), bytes_answer(encode(from_picture(*lines))))

    def test_every_pair_of_small_sheets(self):
        for first in every_sheet(2, 2):
            for second in every_sheet(2, 2):
                for how in range(4):
                    self.check(how, first, second)

    def test_many(self):
        for number, first in enumerate(many_sheets()):
            second = mixed_sheet(first[0], first[1], 100 + number, 8)
            for how in range(4):
                self.check(how, first, second)

    def test_with_itself(self):
        sheet = encode(mixed_sheet(13, 7, 3))
        empty = encode((13, 7, set()))
        for how, told in enumerate((sheet, sheet, empty, empty)):
            self.assertEqual(join(how, sheet, sheet), bytes_answer(told))

    def test_either_is_both_and_just_one_together(self):
        for number, first in enumerate(many_sheets()):
            a, b = encode(first), encode(mixed_sheet(first[0], first[1], 200 + number, 8))
            both, one = join(1, a, b)[2:-1], join(3, a, b)[2:-1]
            self.assertEqual(join(0, both, one), join(0, a, b))
            self.assertEqual(join(3, both, one), join(0, a, b))

    def check(self, how, first, second):
        with self.subTest(how=how, first=first, second=second):
            self.assertEqual(calls(join, how, encode(first), encode(second)),
                             bytes_answer(encode(joined(how, first, second))))


class Refusals(unittest.TestCase):
    def test_another_how(self):
        for how in (4, 5, 7, 8, 16, 255, 256, 1 << 32, 1 << 63, GREATEST - 1, GREATEST):
            self.assertEqual(calls(join, how, GOOD, GOOD), [-1, 0, 0])

    def test_not_of_one_size(self):
        for how in range(4):
            for other in (OTHER_WIDTH, OTHER_HEIGHT):
                self.assertEqual(calls(join, how, GOOD, other), [-5, 0, 0])
                self.assertEqual(calls(join, how, other, GOOD), [-5, 0, 0])

    def test_width_and_height_changed_about(self):
        one, two = encode((2, 3, set())), encode((3, 2, set()))
        self.assertEqual(calls(join, 0, one, two), refusal(-5))
        self.assertEqual(calls(join, 0, encode((1, 24, set())), encode((24, 1, set()))), refusal(-5))

    def test_sizes_are_looked_at_before_how(self):
        for how in (4, GREATEST):
            self.assertEqual(calls(join, how, GOOD, OTHER_WIDTH), refusal(-5))
            self.assertEqual(calls(join, how, OTHER_HEIGHT, GOOD), refusal(-5))

    def test_fault_of_the_first(self):
        self.assertEqual(calls(join, 0, BAD_BIT, GOOD), [-6, 0, 2, 3, 4])
        self.assertEqual(calls(join, 0, [], GOOD), fault(1, 0))
        self.assertEqual(calls(join, 0, [0, 0], GOOD), fault(2, 0))
        self.assertEqual(calls(join, 0, GOOD + [1], GOOD), fault(4, 6))

    def test_fault_of_the_second(self):
        self.assertEqual(calls(join, 0, GOOD, BAD_END), [-6, 0, 2, 17, 5])
        self.assertEqual(calls(join, 0, GOOD, []), fault(17, 0))
        self.assertEqual(calls(join, 0, GOOD, [3, 0, 25, 0]), fault(18, 2))
        self.assertEqual(calls(join, 0, GOOD, BAD_BIT), fault(19, 4))
        self.assertEqual(calls(join, 0, GOOD, GOOD + [1]), fault(20, 6))

    def test_fault_of_both(self):
        self.assertEqual(calls(join, 0, BAD_BIT, BAD_END), fault(3, 4))
        self.assertEqual(calls(join, 0, BAD_END, BAD_BIT), fault(1, 5))
        self.assertEqual(calls(join, 0, GOOD + [1], []), fault(4, 6))

    def test_faults_are_looked_at_before_sizes_and_how(self):
        for how in (0, 4, GREATEST):
            self.assertEqual(calls(join, how, OTHER_WIDTH, BAD_BIT), fault(19, 4))
            self.assertEqual(calls(join, how, BAD_BIT, OTHER_WIDTH), fault(3, 4))
            self.assertEqual(calls(join, how, GOOD, BAD_BIT), fault(19, 4))

    def test_too_many_bytes_come_before_all(self):
        self.assertEqual(len(LONG), 4097)
        for how in (0, 3, 4, GREATEST):
            for other in (GOOD, OTHER_WIDTH, BAD_BIT, BAD_END, [], LONG, [255] * 5000):
                self.assertEqual(calls(join, how, LONG, other), [-2, 0, 0])
                self.assertEqual(calls(join, how, other, LONG), [-2, 0, 0])

    def test_4096_bytes_are_not_too_many(self):
        self.assertEqual(calls(join, 0, LONG[:4096], GOOD), fault(4, 6))
        self.assertEqual(calls(join, 0, GOOD, LONG[:4096]), fault(20, 6))
        self.assertEqual(calls(join, 0, LONG[:4096], LONG[:4096]), fault(4, 6))


if __name__ == "__main__":
    unittest.main()
