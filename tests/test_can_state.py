"""Point 6: can and state."""

import random
import unittest

from playing import (
    ALL_T, BEGIN, CAN, DROP, LARGEST, NEED, ONLY, PART, SINGER, STATE, THERE, TOO_FAR, all_after, bits_plainly,
    replies, reply, some_choir)

ANY = (SINGER, 0, 127)
SONG = [(PART, 40, 50, 1), (PART, 50, 60, 2), (PART, 45, 55, 0)]


def can(calls, singer=0, t=0):
    given = reply(calls + [(CAN, singer, t)])
    if len(given) != 1:
        raise AssertionError(f"not one number: {given}")
    return given[0]


def state(calls):
    return reply(calls + [(STATE,)])


class CanTest(unittest.TestCase):
    def test_no_such_singer(self):
        for t in (0, -24, 24):
            self.assertEqual(can([], 0, t), -2)
            self.assertEqual(can(SONG, 0, t), -2)
            for singer in (2, 3, 11, 12, LARGEST):
                self.assertEqual(can([ANY] * 2 + SONG, singer, t), -2)
        self.assertEqual(can([ANY] * 12 + SONG, 11), 7)
        self.assertEqual(can([ANY] * 12 + SONG, 12), -2)
        self.assertEqual(can([ANY] + SONG + [(BEGIN,)], 0), -2)

    def test_t_too_far(self):
        for t in TOO_FAR:
            self.assertEqual(can([ANY] + SONG, 0, t), -34)
            self.assertEqual(can([ANY], 0, t), -34)
            self.assertEqual(can([ANY] + SONG + [(THERE, 0, 0)], 0, t), -34)

    def test_no_such_singer_is_told_before_t(self):
        for t in TOO_FAR:
            self.assertEqual(can([], 0, t), -2)
            self.assertEqual(can([ANY] + SONG, 1, t), -2)
            self.assertEqual(can([ANY] + SONG, LARGEST, t), -2)

    def test_the_farthest_t(self):
        for t in (-24, 24):
            self.assertEqual(can([ANY] + SONG, 0, t), 7)
            self.assertEqual(can([(SINGER, 60 + t, 60 + t), (PART, 60, 60, 1)], 0, t), 1)
            self.assertEqual(can([(SINGER, 60 + t, 60 + t), (PART, 60, 60, 1)], 0, -t), 0)

    def test_the_parts_as_bits(self):
        self.assertEqual(can([(SINGER, 40, 50)] + SONG), 1)
        self.assertEqual(can([(SINGER, 50, 60)] + SONG), 2)
        self.assertEqual(can([(SINGER, 45, 60)] + SONG), 6)
        self.assertEqual(can([(SINGER, 46, 59)] + SONG), 0)
        for many in range(7):
            self.assertEqual(can([ANY] + [(PART, 40, 50, 1)] * many), 2 ** many - 1)

    def test_no_parts(self):
        self.assertEqual(can([ANY]), 0)
        self.assertEqual(can([ANY, (PART, 40, 50, 1), (DROP, 0)]), 0)

    def test_from_the_lowest_to_the_highest_note(self):
        part = [(PART, 40, 50, 1)]
        self.assertEqual([can([(SINGER, 40, 50)] + part, 0, t) for t in (-1, 0, 1)], [0, 1, 0])
        self.assertEqual([can([(SINGER, 43, 60)] + part, 0, t) for t in (2, 3, 10, 11)], [0, 1, 1, 0])
        self.assertEqual([can([(SINGER, 30, 47)] + part, 0, t) for t in (-2, -3, -10, -11)], [0, 1, 1, 0])
        self.assertEqual([can([(SINGER, 40, 49)] + part, 0, t) for t in ALL_T], [0] * 49)

    def test_at_the_ends_of_all_notes(self):
        self.assertEqual([can([ANY, (PART, 0, 127, 1)], 0, t) for t in (-1, 0, 1)], [0, 1, 0])
        self.assertEqual([can([ANY, (PART, 1, 126, 1)], 0, t) for t in (-2, -1, 0, 1, 2)], [0, 1, 1, 1, 0])
        self.assertEqual([can([(SINGER, 0, 0), (PART, 0, 0, 1)], 0, t) for t in (-1, 0, 1)], [0, 1, 0])

    def test_what_is_needed_does_not_matter(self):
        for need in (0, 1, 12):
            self.assertEqual(can([ANY] + SONG + [(NEED, 0, need)]), 7)

    def test_somebody_away(self):
        calls = [ANY] * 2 + SONG + [(THERE, 0, 0)]
        self.assertEqual([can(calls, 0), can(calls, 1)], [0, 7])
        self.assertEqual(can(calls + [(THERE, 0, 1)], 0), 7)

    def test_one_part_alone(self):
        calls = [ANY] * 2 + SONG
        self.assertEqual([can(calls + [(ONLY, 0, part)]) for part in range(4)], [7, 1, 2, 4])
        self.assertEqual([can(calls + [(ONLY, 0, part)], 1) for part in range(4)], [7, 7, 7, 7])

    def test_one_who_will_sing_a_part_that_they_cannot(self):
        calls = [(SINGER, 40, 50)] + SONG + [(ONLY, 0, 2)]
        self.assertEqual([can(calls, 0, t) for t in (0, -9, -10, -11)], [0, 0, 2, 0])

    def test_each_against_each_note(self):
        for seed in range(150):
            calls = some_choir(random.Random(seed), 6, 6, 2)
            singers, parts = all_after(calls)
            for number, singer in enumerate(singers):
                told = replies(calls + [(CAN, number, t) for t in ALL_T])[len(calls):]
                self.assertEqual(told, [[bits_plainly(singer, parts, t)] for t in ALL_T], (seed, calls))


class StateTest(unittest.TestCase):
    def test_at_first(self):
        self.assertEqual(state([]), [0, 0, 0])

    def test_singers_and_parts(self):
        self.assertEqual(state([ANY]), [1, 1, 0])
        self.assertEqual(state([(PART, 40, 50, 0)]), [0, 0, 1])
        self.assertEqual(state([ANY] * 2 + SONG), [2, 2, 3])
        self.assertEqual(state([ANY] * 13 + [(PART, 40, 50, 0)] * 7), [12, 12, 6])

    def test_those_away(self):
        calls = [ANY] * 3 + SONG
        self.assertEqual(state(calls + [(THERE, 1, 0)]), [3, 2, 3])
        self.assertEqual(state(calls + [(THERE, 1, 0), (THERE, 1, 0)]), [3, 2, 3])
        self.assertEqual(state(calls + [(THERE, n, 0) for n in range(3)]), [3, 0, 3])
        self.assertEqual(state(calls + [(THERE, 1, 0), (THERE, 1, 1)]), [3, 3, 3])

    def test_behind_drop_and_begin(self):
        self.assertEqual(state([ANY] * 2 + SONG + [(DROP, 0)]), [2, 2, 2])
        self.assertEqual(state([ANY] * 2 + SONG + [(DROP, 3)]), [2, 2, 3])
        self.assertEqual(state([ANY] * 2 + SONG + [(BEGIN,)]), [0, 0, 0])

    def test_who_can_sing_nothing_is_there_all_the_same(self):
        self.assertEqual(state([(SINGER, 0, 0)] + SONG + [(ONLY, 0, 1)]), [1, 1, 3])


if __name__ == "__main__":
    unittest.main()
