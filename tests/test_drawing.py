"""read: drawings, what is told of texts that are none, and the way there and back."""

import unittest

from platehalldesk.hall import draw, judge, read
from tests.helper import (bytes_answer, calls, encode, every_sheet, fault, from_picture, many_sheets, picture,
                          refusal, text)


def lines(w, h):
    return (("#." * w)[:w] + "\n") * h


class OrdinaryDrawings(unittest.TestCase):
    def test_the_whole_answer(self):
        self.assertEqual(calls(read, text("#.#\n.#.\n")), [6, 6, 3, 0, 2, 0, 5, 2, 0])

    def test_one_dot(self):
        self.assertEqual(calls(read, text(".\n")), [5, 5, 1, 0, 1, 0, 0, 0])
        self.assertEqual(calls(read, text("#\n")), [5, 5, 1, 0, 1, 0, 1, 0])

    def test_leftmost_dot_is_the_lowest_bit(self):
        self.assertEqual(calls(read, text("#......#.#\n")), bytes_answer([10, 0, 1, 0, 0b10000001, 0b10]))

    def test_the_largest_drawing(self):
        self.assertEqual(calls(read, text(("#" * 24 + "\n") * 24)), bytes_answer([24, 0, 24, 0] + [255] * 72))

    def test_a_sheet(self):
        sheet = from_picture("##.......", "........#", "#.#.#.#.#")
        self.assertEqual(calls(read, text(picture(sheet))), bytes_answer(encode(sheet)))

    def test_there_and_back(self):
        for sheet in many_sheets():
            with self.subTest(w=sheet[0], h=sheet[1], dots=len(sheet[2])):
                self.there_and_back(sheet)

    def test_bytes_tell_one_sheet_and_so_does_a_drawing(self):
        seen = set()
        for sheet in every_sheet(3, 2):
            self.there_and_back(sheet)
            seen.add(tuple(read(text(picture(sheet)))))
        self.assertEqual(len(seen), 64)

    def there_and_back(self, sheet):
        drawing = text(picture(sheet))
        told = calls(read, drawing)
        self.assertEqual(told, bytes_answer(encode(sheet)))
        drawn = calls(draw, told[2:-1])
        self.assertEqual(drawn, bytes_answer(drawing))
        self.assertEqual(calls(read, drawn[2:-1]), told)
        self.assertEqual(judge(told[2:-1]), [0, 0, 3, sheet[0], sheet[1], len(sheet[2])])


class Faults(unittest.TestCase):
    def told(self, words, kind, place):
        t = text(words) if isinstance(words, str) else words
        self.assertEqual(calls(read, t), fault(kind, place))

    def test_the_example(self):
        self.assertEqual(calls(read, text("#.")), [-6, 0, 2, 4, 2])

    def test_another_byte(self):
        for byte in range(256):
            if byte not in (10, 35, 46):
                self.told([byte], 1, 0)
                self.told(text("#.\n#") + [byte], 1, 4)
        self.told("#.\r\n", 1, 2)

    def test_another_byte_is_told_where_another_kind_would_be_too(self):
        self.told(text("#.\n..") + [0], 1, 5)
        self.told(text("." * 24) + [255], 1, 24)
        self.told(text(lines(4, 24)) + [32], 1, 120)

    def test_first_line_has_nothing(self):
        self.told("\n", 2, 0)
        self.told("\n#\n", 2, 0)
        self.told("\n\n\n", 2, 0)

    def test_line_shorter_than_the_first(self):
        self.told("##\n#\n", 2, 4)
        self.told("##\n\n", 2, 3)
        self.told("#.#\n#.#\n#.\n#.#\n", 2, 10)
        self.told("." * 24 + "\n" + "#" * 23 + "\n", 2, 48)

    def test_line_end_behind_24_lines_is_a_line_too_short(self):
        self.told(lines(1, 24) + "\n", 2, 48)
        self.told(lines(24, 24) + "\n", 2, 600)

    def test_line_longer_than_the_first(self):
        self.told("#\n##\n", 3, 3)
        self.told("##\n##.\n", 3, 5)
        self.told("#.#\n#.#\n#.#.\n", 3, 11)

    def test_first_line_longer_than_24(self):
        self.told("#" * 25 + "\n", 3, 24)
        self.told("." * 25, 3, 24)
        self.told("." * 40 + "\n", 3, 24)
        self.told("." * 24 + "\n" + "#" * 25 + "\n", 3, 49)

    def test_text_ends_within_a_line(self):
        self.told("#", 4, 1)
        self.told("." * 24, 4, 24)
        self.told("##\n#", 4, 4)
        self.told("##\n##", 4, 5)
        self.told(lines(2, 23) + "#.", 4, 71)

    def test_text_without_a_line(self):
        self.assertEqual(calls(read, []), [-6, 0, 2, 4, 0])

    def test_more_than_24_lines(self):
        self.told(lines(1, 25), 5, 48)
        self.told(lines(1, 24) + ".", 5, 48)
        self.told(lines(24, 24) + "." * 24 + "\n", 5, 600)
        self.told(lines(3, 40), 5, 96)

    def test_heights_at_the_edge(self):
        self.assertEqual(calls(read, text("#\n" * 24)), bytes_answer([1, 0, 24, 0] + [1] * 24))
        self.assertEqual(calls(read, text("#\n" * 23)), bytes_answer([1, 0, 23, 0] + [1] * 23))

    def test_the_first_of_several_is_told(self):
        self.told("##\n#\n###\nx", 2, 4)
        self.told("##\n###\n#\nx", 3, 5)
        self.told("##\n#x\n###", 1, 4)
        self.told("\nx", 2, 0)
        self.told("x\n", 1, 0)
        self.told("." * 25 + "x", 3, 24)
        self.told("##\n###", 3, 5)
        self.told(lines(2, 24) + "#x", 5, 72)
        self.told(lines(2, 23) + "#\n#.\n#", 2, 70)
        self.told("##\n#", 4, 4)

    def test_4096_bytes_and_more(self):
        self.told(lines(1, 2048), 5, 48)
        self.told([120] * 4096, 1, 0)
        self.assertEqual(calls(read, [120] * 4097), refusal(-2))
        self.assertEqual(calls(read, text(lines(1, 2048) + "#")), refusal(-2))
        self.assertEqual(calls(read, [10] * 5000), [-2, 0, 0])


if __name__ == "__main__":
    unittest.main()
