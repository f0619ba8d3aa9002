"""judge and draw: sheets' bytes, and what is told of bytes that are none."""

import unittest

from platehalldesk.hall import draw, judge
from tests.helper import (bytes_answer, calls, encode, fault, from_picture, many_sheets, mixed_sheet, picture,
                          refusal, text)

ROWS_OF_9 = [9, 0, 2, 0, 255, 1, 0, 0]


class OrdinarySheets(unittest.TestCase):
    def test_the_whole_answer_of_judge(self):
        self.assertEqual(calls(judge, [3, 0, 2, 0, 5, 2]), [0, 0, 3, 3, 2, 3])

    def test_the_whole_answer_of_draw(self):
        self.assertEqual(calls(draw, [3, 0, 2, 0, 5, 2]), [8, 8, 35, 46, 35, 10, 46, 35, 46, 10, 0])

    def test_lowest_bit_is_the_leftmost_dot(self):
        self.assertEqual(calls(draw, [10, 0, 1, 0, 0b10000001, 0b10]), bytes_answer(text("#......#.#\n")))

    def test_width_comes_before_height(self):
        self.assertEqual(calls(judge, [2, 0, 3, 0, 1, 2, 3]), [0, 0, 3, 2, 3, 4])

    def test_one_dot(self):
        self.assertEqual(calls(judge, [1, 0, 1, 0, 0]), [0, 0, 3, 1, 1, 0])
        self.assertEqual(calls(judge, [1, 0, 1, 0, 1]), [0, 0, 3, 1, 1, 1])
        self.assertEqual(calls(draw, [1, 0, 1, 0, 0]), [2, 2, 46, 10, 0])
        self.assertEqual(calls(draw, [1, 0, 1, 0, 1]), [2, 2, 35, 10, 0])

    def test_the_largest_sheet(self):
        full = [24, 0, 24, 0] + [255] * 72
        self.assertEqual(calls(judge, full), [0, 0, 3, 24, 24, 576])
        self.assertEqual(calls(draw, full), bytes_answer(text(("#" * 24 + "\n") * 24)))

    def test_a_drawn_sheet(self):
        sheet = from_picture("##.......", "........#", "#.#.#.#.#")
        self.assertEqual(calls(draw, encode(sheet)), bytes_answer(text(picture(sheet))))
        self.assertEqual(calls(judge, encode(sheet)), [0, 0, 3, 9, 3, 8])

    def test_many(self):
        for sheet in many_sheets():
            w, h, dots = sheet
            with self.subTest(w=w, h=h, dots=len(dots)):
                self.assertEqual(calls(judge, encode(sheet)), [0, 0, 3, w, h, len(dots)])
                self.assertEqual(calls(draw, encode(sheet)), bytes_answer(text(picture(sheet))))


class Faults(unittest.TestCase):
    def told(self, a, expected):
        self.assertEqual(calls(judge, a), expected)
        self.assertEqual(calls(draw, a), expected)

    def test_no_bytes(self):
        self.told([], [-6, 0, 2, 1, 0])

    def test_bytes_end_within_w(self):
        self.told([5], fault(1, 1))
        self.told([0], fault(1, 1))
        self.told([255], fault(1, 1))

    def test_bytes_end_within_h(self):
        self.told([5, 0], fault(1, 2))
        self.told([5, 0, 7], fault(1, 3))
        self.told([5, 0, 0], fault(1, 3))
        self.told([5, 0, 25], fault(1, 3))

    def test_bytes_end_before_and_within_a_row(self):
        whole = [17, 0, 2, 0] + [1, 2, 0] * 2
        for end in range(4, len(whole)):
            self.told(whole[:end], fault(1, end))

    def test_w_out_of_bounds(self):
        for low, high in ((0, 0), (25, 0), (255, 0), (0, 1), (1, 1), (24, 1), (0, 255), (255, 255)):
            self.told([low, high, 1, 0, 0], fault(2, 0))

    def test_h_out_of_bounds(self):
        for low, high in ((0, 0), (25, 0), (255, 0), (0, 1), (1, 1), (24, 1), (0, 255), (255, 255)):
            self.told([1, 0, low, high, 0], fault(2, 2))

    def test_w_is_looked_at_before_h_and_before_the_end(self):
        self.told([0, 0], fault(2, 0))
        self.told([25, 0], fault(2, 0))
        self.told([0, 1, 5], fault(2, 0))
        self.told([0, 0, 0, 0], fault(2, 0))
        self.told([25, 0, 25, 0, 255, 255], fault(2, 0))

    def test_h_is_looked_at_before_the_rows(self):
        self.told([8, 0, 0, 0], fault(2, 2))
        self.told([7, 0, 25, 0], fault(2, 2))
        self.told([7, 0, 25, 0, 255], fault(2, 2))

    def test_bits_behind_the_last_dot(self):
        for w in range(1, 25):
            size = (w + 7) // 8
            for bit in range(w, 8 * size):
                last = [0] * (size - 1) + [1 << bit % 8]
                self.told([w, 0, 1, 0] + last, fault(3, 3 + size))
                self.told([w, 0, 3, 0] + [0] * size * 2 + last, fault(3, 3 + 3 * size))
            # The last dot itself is no fault, nor is anything in the bytes before.
            full = [255] * (size - 1) + [(1 << (w - 8 * (size - 1))) - 1]
            self.assertEqual(calls(judge, [w, 0, 2, 0] + full * 2), [0, 0, 3, w, 2, 2 * w])

    def test_no_bits_lie_behind_widths_8_16_24(self):
        for w in (8, 16, 24):
            self.assertEqual(calls(judge, [w, 0, 1, 0] + [255] * (w // 8)), [0, 0, 3, w, 1, w])

    def test_only_the_last_byte_of_a_row_is_looked_at(self):
        self.told([9, 0, 1, 0, 255, 2], fault(3, 5))
        self.assertEqual(calls(judge, ROWS_OF_9), [0, 0, 3, 9, 2, 9])

    def test_bytes_left_over(self):
        self.told([1, 0, 1, 0, 1, 0], fault(4, 5))
        self.told([8, 0, 2, 0, 255, 255, 9, 9, 9], fault(4, 6))
        self.told([24, 0, 24, 0] + [255] * 73, fault(4, 76))
        self.told(ROWS_OF_9 + [0], fault(4, 8))

    def test_the_first_of_several_is_told(self):
        self.told([7, 0, 3, 0, 128, 128], fault(3, 4))
        self.told([7, 0, 3, 0, 1, 128], fault(3, 5))
        self.told([7, 0, 3, 0, 1, 127], fault(1, 6))
        self.told([9, 0, 2, 0, 0, 2, 0], fault(3, 5))
        # The second row's last byte isn't there: only its end is met.
        self.told([9, 0, 2, 0, 0, 1, 255], fault(1, 7))
        self.told([7, 0, 1, 0, 128, 1, 2], fault(3, 4))
        self.told([7, 0, 1, 0, 127, 128], fault(4, 5))

    def test_4096_bytes_and_more(self):
        whole = encode(mixed_sheet(24, 24, 5))
        self.told(whole + [0] * (4096 - 76), fault(4, 76))
        self.told(whole + [0] * (4097 - 76), refusal(-2))
        self.told([0] * 4096, fault(2, 0))
        self.told([0] * 4097, [-2, 0, 0])
        self.told([255] * 5000, [-2, 0, 0])


if __name__ == "__main__":
    unittest.main()
