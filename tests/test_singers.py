"""Point 2: singer, there, only."""

import unittest

from playing import LARGEST, ONLY, PART, SINGER, THERE, last, firsts, singers_after

TWO = [(SINGER, 40, 60), (SINGER, 50, 70)]
FULL = [(SINGER, n, n + 10) for n in range(12)]
SONG = [(PART, 40, 50, 1), (PART, 50, 60, 2)]


class SingerTest(unittest.TestCase):
    def test_answers_the_singers_number(self):
        self.assertEqual(firsts(TWO), [0, 1])

    def test_is_there_and_will_sing_any_part(self):
        self.assertEqual(singers_after(SONG + TWO), [(40, 60, 1, 0), (50, 70, 1, 0)])

    def test_low_equal_to_high(self):
        for note in (0, 1, 64, 127):
            self.assertEqual(singers_after([(SINGER, note, note)]), [(note, note, 1, 0)])
            self.assertEqual(last([(SINGER, note, note)]), 0)

    def test_all_notes(self):
        self.assertEqual(last([(SINGER, 0, 127)]), 0)
        self.assertEqual(singers_after([(SINGER, 0, 127)]), [(0, 127, 1, 0)])

    def test_low_above_high(self):
        for low, high in ((1, 0), (61, 60), (127, 126), (127, 0), (LARGEST, 0), (LARGEST, 127)):
            self.assertEqual(last([(SINGER, low, high)]), -22)

    def test_high_above_127(self):
        for low, high in ((0, 128), (127, 128), (128, 128), (0, LARGEST), (LARGEST, LARGEST)):
            self.assertEqual(last([(SINGER, low, high)]), -22)

    def test_low_above_high_and_above_127(self):
        self.assertEqual(last([(SINGER, 129, 128)]), -22)
        self.assertEqual(last([(SINGER, 128, 127)]), -22)

    def test_twelfth_and_thirteenth(self):
        self.assertEqual(firsts(FULL), list(range(12)))
        self.assertEqual(last(FULL + [(SINGER, 40, 60)]), -12)
        self.assertEqual(last(FULL + [(SINGER, 40, 60)] * 2), -12)

    def test_those_away_count_among_the_twelve(self):
        self.assertEqual(last(FULL + [(THERE, 3, 0), (SINGER, 40, 60)]), -12)

    def test_wrong_notes_are_told_before_twelve_singers(self):
        self.assertEqual(last(FULL + [(SINGER, 61, 60)]), -22)
        self.assertEqual(last(FULL + [(SINGER, 60, 128)]), -22)

    def test_parts_do_not_count_as_singers(self):
        self.assertEqual(last(SONG + [(SINGER, 40, 60)]), 0)


class ThereTest(unittest.TestCase):
    def test_away_and_back(self):
        away = TWO + [(THERE, 1, 0)]
        self.assertEqual(last(away), 0)
        self.assertEqual(singers_after(away), [(40, 60, 1, 0), (50, 70, 0, 0)])
        back = away + [(THERE, 1, 1)]
        self.assertEqual(last(back), 0)
        self.assertEqual(singers_after(back), [(40, 60, 1, 0), (50, 70, 1, 0)])

    def test_the_same_again(self):
        self.assertEqual(firsts(TWO + [(THERE, 0, 1)]), [0, 1, 0])
        twice = TWO + [(THERE, 0, 0), (THERE, 0, 0)]
        self.assertEqual(firsts(twice), [0, 1, 0, 0])
        self.assertEqual(singers_after(twice), [(40, 60, 0, 0), (50, 70, 1, 0)])

    def test_what_they_will_sing_stays(self):
        calls = TWO + SONG + [(ONLY, 0, 2), (THERE, 0, 0), (THERE, 0, 1)]
        self.assertEqual(singers_after(calls), [(40, 60, 1, 2), (50, 70, 1, 0)])

    def test_on_above_1(self):
        for on in (2, 3, LARGEST):
            self.assertEqual(last(TWO + [(THERE, 0, on)]), -22)

    def test_no_such_singer(self):
        for singer in (2, 3, 11, 12, LARGEST):
            for on in (0, 1):
                self.assertEqual(last(TWO + [(THERE, singer, on)]), -2)
        self.assertEqual(last([(THERE, 0, 1)]), -2)
        self.assertEqual(last(FULL + [(THERE, 11, 0)]), 0)
        self.assertEqual(last(FULL + [(THERE, 12, 0)]), -2)

    def test_no_such_singer_is_told_before_on(self):
        for on in (2, LARGEST):
            self.assertEqual(last(TWO + [(THERE, 2, on)]), -2)
            self.assertEqual(last([(THERE, LARGEST, on)]), -2)


class OnlyTest(unittest.TestCase):
    def test_one_part_alone_and_any_again(self):
        alone = TWO + SONG + [(ONLY, 1, 1)]
        self.assertEqual(last(alone), 0)
        self.assertEqual(singers_after(alone), [(40, 60, 1, 0), (50, 70, 1, 1)])
        other = alone + [(ONLY, 1, 2)]
        self.assertEqual(singers_after(other), [(40, 60, 1, 0), (50, 70, 1, 2)])
        free = other + [(ONLY, 1, 0)]
        self.assertEqual(last(free), 0)
        self.assertEqual(singers_after(free), [(40, 60, 1, 0), (50, 70, 1, 0)])

    def test_as_many_as_there_are_parts_and_one_more(self):
        for many in range(7):
            before = TWO + [(PART, 40, 50, 1)] * many
            self.assertEqual(last(before + [(ONLY, 0, many)]), 0)
            self.assertEqual(singers_after(before + [(ONLY, 0, many)])[0], (40, 60, 1, many))
            self.assertEqual(last(before + [(ONLY, 0, many + 1)]), -2)

    def test_any_without_parts(self):
        self.assertEqual(last(TWO + [(ONLY, 0, 0)]), 0)
        self.assertEqual(last(TWO + [(ONLY, 0, 1)]), -2)

    def test_largest_numbers(self):
        self.assertEqual(last(TWO + SONG + [(ONLY, 0, LARGEST)]), -2)
        self.assertEqual(last(TWO + SONG + [(ONLY, LARGEST, 0)]), -2)
        self.assertEqual(last(TWO + SONG + [(ONLY, LARGEST, LARGEST)]), -2)

    def test_no_such_singer(self):
        for part in (0, 1, 2, 3):
            self.assertEqual(last(TWO + SONG + [(ONLY, 2, part)]), -2)
            self.assertEqual(last(SONG + [(ONLY, 0, part)]), -2)

    def test_a_part_that_they_cannot_sing(self):
        calls = [(SINGER, 0, 1), (PART, 100, 127, 1), (ONLY, 0, 1)]
        self.assertEqual(last(calls), 0)
        self.assertEqual(singers_after(calls), [(0, 1, 1, 1)])

    def test_somebody_away(self):
        calls = TWO + SONG + [(THERE, 0, 0), (ONLY, 0, 2)]
        self.assertEqual(last(calls), 0)
        self.assertEqual(singers_after(calls), [(40, 60, 0, 2), (50, 70, 1, 0)])


if __name__ == "__main__":
    unittest.main()
