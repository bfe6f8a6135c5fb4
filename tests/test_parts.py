"""Point 3: part, need and drop."""

import unittest

from playing import (
    CAN, DROP, FEW, LARGEST, NEED, ONLY, PART, SING, SINGER, STATE, THERE, firsts, last, parts_after, replies, reply,
    seen_after)

TWO = [(PART, 40, 50, 1), (PART, 50, 60, 2)]
FULL = [(PART, n, n + 10, n) for n in range(6)]


class PartTest(unittest.TestCase):
    def test_answers_the_parts_number(self):
        self.assertEqual(firsts(TWO), [0, 1])
        self.assertEqual(parts_after(TWO), [(40, 50, 1), (50, 60, 2)])

    def test_low_equal_to_high(self):
        for note in (0, 1, 64, 127):
            self.assertEqual(last([(PART, note, note, 1)]), 0)
            self.assertEqual(parts_after([(PART, note, note, 1)]), [(note, note, 1)])

    def test_all_notes(self):
        self.assertEqual(last([(PART, 0, 127, 1)]), 0)

    def test_low_above_high(self):
        for low, high in ((1, 0), (61, 60), (127, 126), (127, 0), (LARGEST, 0), (LARGEST, 127)):
            self.assertEqual(last([(PART, low, high, 1)]), -22)

    def test_high_above_127(self):
        for low, high in ((0, 128), (127, 128), (128, 128), (0, LARGEST), (LARGEST, LARGEST)):
            self.assertEqual(last([(PART, low, high, 1)]), -22)

    def test_need_0_and_12(self):
        for need in (0, 12):
            self.assertEqual(last([(PART, 40, 50, need)]), 0)
            self.assertEqual(parts_after([(PART, 40, 50, need)]), [(40, 50, need)])

    def test_need_above_12(self):
        for need in (13, 14, LARGEST):
            self.assertEqual(last([(PART, 40, 50, need)]), -22)

    def test_all_wrong_at_once(self):
        self.assertEqual(last([(PART, 129, 128, 13)]), -22)
        self.assertEqual(last([(PART, LARGEST, LARGEST, LARGEST)]), -22)

    def test_sixth_and_seventh(self):
        self.assertEqual(firsts(FULL), list(range(6)))
        self.assertEqual(last(FULL + [(PART, 40, 50, 1)]), -12)
        self.assertEqual(last(FULL + [(PART, 40, 50, 1)] * 2), -12)

    def test_wrong_numbers_are_told_before_six_parts(self):
        self.assertEqual(last(FULL + [(PART, 51, 50, 1)]), -22)
        self.assertEqual(last(FULL + [(PART, 40, 128, 1)]), -22)
        self.assertEqual(last(FULL + [(PART, 40, 50, 13)]), -22)

    def test_singers_do_not_count_as_parts(self):
        self.assertEqual(last([(SINGER, 40, 60)] * 12 + [(PART, 40, 50, 1)]), 0)

    def test_more_may_be_needed_than_there_are_singers(self):
        self.assertEqual(firsts([(PART, 40, 50, 12)] * 6), list(range(6)))


class NeedTest(unittest.TestCase):
    def test_needs_so_many(self):
        calls = TWO + [(NEED, 1, 7)]
        self.assertEqual(last(calls), 0)
        self.assertEqual(parts_after(calls), [(40, 50, 1), (50, 60, 7)])

    def test_0_and_12(self):
        for n in (0, 12):
            self.assertEqual(last(TWO + [(NEED, 0, n)]), 0)
            self.assertEqual(parts_after(TWO + [(NEED, 0, n)]), [(40, 50, n), (50, 60, 2)])

    def test_above_12(self):
        for n in (13, 14, LARGEST):
            self.assertEqual(last(TWO + [(NEED, 0, n)]), -22)

    def test_no_such_part(self):
        for part in (2, 3, 5, 6, LARGEST):
            for n in (0, 1, 12):
                self.assertEqual(last(TWO + [(NEED, part, n)]), -2)
        self.assertEqual(last([(NEED, 0, 1)]), -2)
        self.assertEqual(last([(SINGER, 40, 60), (NEED, 0, 1)]), -2)
        self.assertEqual(last(FULL + [(NEED, 5, 1)]), 0)
        self.assertEqual(last(FULL + [(NEED, 6, 1)]), -2)

    def test_no_such_part_is_told_before_n(self):
        for n in (13, LARGEST):
            self.assertEqual(last(TWO + [(NEED, 2, n)]), -2)
            self.assertEqual(last([(NEED, LARGEST, n)]), -2)


class DropTest(unittest.TestCase):
    # One singer for each part and one who sings any; each part lies elsewhere, so can tells them apart.
    SONG = [(PART, 40, 40, 1), (PART, 50, 50, 2), (PART, 60, 60, 3), (PART, 70, 70, 0)]
    ALONE = [(SINGER, 0, 127)] * 5 + SONG + [(ONLY, n, n + 1) for n in range(4)]

    def cans(self, calls):
        return [numbers[0] for numbers in replies(calls + [(CAN, n, 0) for n in range(5)])[-5:]]

    def test_answers_how_many_parts_are_left(self):
        self.assertEqual(firsts(self.SONG + [(DROP, 0)] * 5)[4:], [3, 2, 1, 0, -2])
        self.assertEqual(last(FULL + [(DROP, 5)]), 5)
        self.assertEqual(last(FULL + [(DROP, 0)]), 5)
        self.assertEqual(reply(FULL + [(DROP, 2), (STATE,)]), [0, 0, 5])

    def test_the_part_itself_goes_and_those_behind_have_a_number_less(self):
        for part in range(4):
            rest = self.SONG[:part] + self.SONG[part + 1:]
            calls = self.SONG + [(DROP, part)]
            self.assertEqual(last(calls), 3)
            self.assertEqual(parts_after(calls), [call[1:] for call in rest])
            singers = [(SINGER, note, note) for note in (40, 50, 60, 70)]
            self.assertEqual(seen_after(singers + calls), seen_after(singers + rest))

    def test_who_would_sing_it_alone_will_sing_any(self):
        self.assertEqual(self.cans(self.ALONE), [1, 2, 4, 8, 15])
        for part in range(4):
            self.assertEqual(self.cans(self.ALONE + [(DROP, part)])[part], 7)

    def test_who_would_sing_another_alone_sings_the_same_one_alone(self):
        self.assertEqual(self.cans(self.ALONE + [(DROP, 0)]), [7, 1, 2, 4, 7])
        self.assertEqual(self.cans(self.ALONE + [(DROP, 1)]), [1, 7, 2, 4, 7])
        self.assertEqual(self.cans(self.ALONE + [(DROP, 2)]), [1, 2, 7, 4, 7])
        self.assertEqual(self.cans(self.ALONE + [(DROP, 3)]), [1, 2, 4, 7, 7])

    def test_the_next_one_alone_is_not_lost_by_the_next_drop(self):
        self.assertEqual(self.cans(self.ALONE + [(DROP, 0), (DROP, 0)]), [3, 3, 1, 2, 3])
        self.assertEqual(self.cans(self.ALONE + [(DROP, 1), (DROP, 1)]), [1, 3, 3, 2, 3])
        self.assertEqual(self.cans(self.ALONE + [(DROP, 0)] * 4), [0] * 5)

    def test_will_sing_any_of_those_that_come_later_too(self):
        one = [(SINGER, 0, 127), (PART, 40, 50, 1), (ONLY, 0, 1), (DROP, 0)]
        later = one + [(PART, 40, 50, 1), (PART, 50, 60, 1)]
        self.assertEqual(reply(later + [(CAN, 0, 0)]), [3])

    def test_one_away_is_told_a_number_less_too(self):
        calls = [(SINGER, 0, 127)] + self.SONG + [(ONLY, 0, 3), (THERE, 0, 0), (DROP, 0), (THERE, 0, 1), (CAN, 0, 0)]
        self.assertEqual(reply(calls), [2])

    def test_there_is_room_for_another_part(self):
        calls = FULL + [(DROP, 3), (PART, 1, 2, 3), (PART, 1, 2, 3)]
        self.assertEqual(firsts(calls)[-3:], [5, 5, -12])

    def test_what_it_needed_is_needed_no_longer(self):
        calls = [(SINGER, 40, 60), (PART, 50, 50, 1), (PART, 50, 50, 1)]
        self.assertEqual(reply(calls + [(SING,)]), [-33])
        self.assertEqual(reply(calls + [(DROP, 0), (SING,)]), [1, 0, 1])
        self.assertEqual(reply(calls + [(DROP, 0), (FEW, 0)]), [0])

    def test_only_counts_the_parts_that_are_left(self):
        calls = [(SINGER, 40, 60)] + TWO + [(DROP, 0), (ONLY, 0, 1), (ONLY, 0, 2), (NEED, 1, 1), (NEED, 0, 1)]
        self.assertEqual(firsts(calls)[-5:], [1, 0, -2, -2, 0])

    def test_no_such_part(self):
        self.assertEqual(last([(DROP, 0)]), -2)
        self.assertEqual(last([(SINGER, 40, 60), (DROP, 0)]), -2)
        for part in (2, 3, 5, 6, LARGEST):
            self.assertEqual(last(TWO + [(DROP, part)]), -2)
            self.assertEqual(seen_after(self.ALONE + [(DROP, max(part, 4))]), seen_after(self.ALONE))
        self.assertEqual(last(FULL + [(DROP, 6)]), -2)


if __name__ == "__main__":
    unittest.main()
