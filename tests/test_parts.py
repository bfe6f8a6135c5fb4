"""Point 3: part and need."""

import unittest

from playing import LARGEST, NEED, PART, SINGER, last, firsts, parts_after

TWO = [(PART, 40, 50, 1), (PART, 50, 60, 2)]
FULL = [(PART, n, n + 10, n) for n in range(6)]


class PartTest(unittest.TestCase):
    def test_answers_the_parts_number(self):
        self.assertEqual(firsts(TWO), [0, 1])
        self.assertEqual(parts_after(TWO), [(40, 50, 1), (50, 60, 2)])

    def test_low_equal_to_high(self):
        for note in (0, 1, 64, 127):
            self.assertEqual(last([(PART, note, note, 1)]), 0)
            self.assertEqual(parts_after([(PART, note, note, 1)]), [(note, note, 1)])

    def test_all_notes(self):
        self.assertEqual(last([(PART, 0, 127, 1)]), 0)

    def test_low_above_high(self):
        for low, high in ((1, 0), (61, 60), (127, 126), (127, 0), (LARGEST, 0), (LARGEST, 127)):
            self.assertEqual(last([(PART, low, high, 1)]), -22)

    def test_high_above_127(self):
        for low, high in ((0, 128), (127, 128), (128, 128), (0, LARGEST), (LARGEST, LARGEST)):
            self.assertEqual(last([(PART, low, high, 1)]), -22)

    def test_need_0_and_12(self):
        for need in (0, 12):
            self.assertEqual(last([(PART, 40, 50, need)]), 0)
            self.assertEqual(parts_after([(PART, 40, 50, need)]), [(40, 50, need)])

    def test_need_above_12(self):
        for need in (13, 14, LARGEST):
            self.assertEqual(last([(PART, 40, 50, need)]), -22)

    def test_all_wrong_at_once(self):
        self.assertEqual(last([(PART, 129, 128, 13)]), -22)
        self.assertEqual(last([(PART, LARGEST, LARGEST, LARGEST)]), -22)

    def test_sixth_and_seventh(self):
        self.assertEqual(firsts(FULL), list(range(6)))
        self.assertEqual(last(FULL + [(PART, 40, 50, 1)]), -12)
        self.assertEqual(last(FULL + [(PART, 40, 50, 1)] * 2), -12)

    def test_wrong_numbers_are_told_before_six_parts(self):
        self.assertEqual(last(FULL + [(PART, 51, 50, 1)]), -22)
        self.assertEqual(last(FULL + [(PART, 40, 128, 1)]), -22)
        self.assertEqual(last(FULL + [(PART, 40, 50, 13)]), -22)

    def test_singers_do_not_count_as_parts(self):
        self.assertEqual(last([(SINGER, 40, 60)] * 12 + [(PART, 40, 50, 1)]), 0)

    def test_more_may_be_needed_than_there_are_singers(self):
        self.assertEqual(firsts([(PART, 40, 50, 12)] * 6), list(range(6)))


class NeedTest(unittest.TestCase):
    def test_needs_so_many(self):
        calls = TWO + [(NEED, 1, 7)]
        self.assertEqual(last(calls), 0)
        self.assertEqual(parts_after(calls), [(40, 50, 1), (50, 60, 7)])

    def test_0_and_12(self):
        for n in (0, 12):
            self.assertEqual(last(TWO + [(NEED, 0, n)]), 0)
            self.assertEqual(parts_after(TWO + [(NEED, 0, n)]), [(40, 50, n), (50, 60, 2)])

    def test_above_12(self):
        for n in (13, 14, LARGEST):
            self.assertEqual(last(TWO + [(NEED, 0, n)]), -22)

    def test_no_such_part(self):
        for part in (2, 3, 5, 6, LARGEST):
            for n in (0, 1, 12):
                self.assertEqual(last(TWO + [(NEED, part, n)]), -2)
        self.assertEqual(last([(NEED, 0, 1)]), -2)
        self.assertEqual(last([(SINGER, 40, 60), (NEED, 0, 1)]), -2)
        self.assertEqual(last(FULL + [(NEED, 5, 1)]), 0)
        self.assertEqual(last(FULL + [(NEED, 6, 1)]), -2)

    def test_no_such_part_is_told_before_n(self):
        for n in (13, LARGEST):
            self.assertEqual(last(TWO + [(NEED, 2, n)]), -2)
            self.assertEqual(last([(NEED, LARGEST, n)]), -2)


if __name__ == "__main__":
    unittest.main()
