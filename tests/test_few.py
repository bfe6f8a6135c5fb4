"""Point 5: few."""

import random
import unittest

from playing import (
    ALL_T, BEGIN, DROP, FEW, NEED, ONLY, PART, SING, SINGER, THERE, TOO_FAR, all_after, few_plainly,
    first_way_by_leaving_off, first_way_plainly, replies, reply, some_choir)

ANY = (SINGER, 0, 127)
SONG = [(PART, 40, 50, 1), (PART, 50, 60, 2)]


def few(calls, t=0):
    return reply(calls + [(FEW, t)])


class RefusalTest(unittest.TestCase):
    def test_no_parts(self):
        for t in (0, -24, 24):
            self.assertEqual(few([], t), [-61])
            self.assertEqual(few([ANY], t), [-61])
        self.assertEqual(few([ANY, (PART, 40, 50, 1), (DROP, 0)]), [-61])
        self.assertEqual(few([ANY, (PART, 40, 50, 1), (BEGIN,)]), [-61])

    def test_t_too_far(self):
        for t in TOO_FAR:
            self.assertEqual(few([ANY] * 3 + SONG, t), [-34])
            self.assertEqual(few(SONG, t), [-34])
            self.assertEqual(few([(PART, 40, 50, 0)], t), [-34])

    def test_the_farthest_t(self):
        for t in (-24, 24):
            self.assertEqual(few([ANY] * 3 + SONG, t), [0])
            self.assertEqual(few([(SINGER, 60 + t, 60 + t), (PART, 60, 60, 1)], t), [0])
            self.assertEqual(few([(SINGER, 60 + t, 60 + t), (PART, 60, 60, 1)], -t), [1, 0, 1])

    def test_no_parts_is_told_before_t(self):
        for t in TOO_FAR:
            self.assertEqual(few([], t), [-61])
            self.assertEqual(few([ANY], t), [-61])


class FewTest(unittest.TestCase):
    def test_enough(self):
        self.assertEqual(few([ANY] * 3 + SONG), [0])
        self.assertEqual(few([(SINGER, 40, 50), (SINGER, 50, 60), (SINGER, 50, 60)] + SONG), [0])

    def test_one_part(self):
        self.assertEqual(few([(SINGER, 50, 60)] * 2 + SONG), [1, 0, 1])
        self.assertEqual(few([(SINGER, 40, 50), (SINGER, 50, 60)] + SONG), [2, 1, 2])

    def test_the_least_of_several(self):
        self.assertEqual(few(SONG), [1, 0, 1])
        self.assertEqual(few([(SINGER, 40, 50)] + SONG), [2, 0, 2])
        calls = [(PART, 40, 50, 0), (PART, 40, 50, 0), (PART, 40, 50, 4), (PART, 40, 50, 5)]
        self.assertEqual(few([ANY] * 3 + calls), [4, 3, 4])
        self.assertEqual(few([ANY] * 4 + calls), [8, 4, 5])
        self.assertEqual(few([ANY] * 5 + calls), [12, 5, 9])
        self.assertEqual(few([ANY] * 9 + calls), [0])

    def test_two_parts_together(self):
        self.assertEqual(few([ANY] * 2 + SONG), [3, 2, 3])
        calls = [ANY, (SINGER, 20, 30), (PART, 40, 50, 1), (PART, 20, 30, 1), (PART, 50, 60, 1)]
        self.assertEqual(few(calls), [5, 1, 2])

    def test_all_six_together(self):
        self.assertEqual(few([ANY] * 12 + [(PART, 40, 50, 2)] * 6), [0])
        self.assertEqual(few([ANY] * 12 + [(PART, 40, 50, 2)] * 5 + [(PART, 40, 50, 3)]), [63, 12, 13])
        self.assertEqual(few([ANY] * 11 + [(PART, 40, 50, 2)] * 6), [63, 11, 12])
        self.assertEqual(few([(PART, 40, 50, 0)] * 5 + [(PART, 40, 50, 1)]), [32, 0, 1])
        self.assertEqual(few([ANY] * 12 + [(PART, 40, 50, 12)] * 6), [3, 12, 24])

    def test_one_who_can_sing_two_of_them_counts_once(self):
        calls = [(SINGER, 40, 60), (PART, 40, 50, 1), (PART, 50, 60, 1)]
        self.assertEqual(few(calls), [3, 1, 2])

    def test_sung_so_much_higher(self):
        calls = [(SINGER, 45, 60), (PART, 40, 50, 1)]
        self.assertEqual([few(calls, t) for t in (4, 5, 10, 11)], [[1, 0, 1], [0], [0], [1, 0, 1]])
        calls = [(SINGER, 30, 45), (PART, 40, 50, 1)]
        self.assertEqual([few(calls, t) for t in (-4, -5, -10, -11)], [[1, 0, 1], [0], [0], [1, 0, 1]])

    def test_somebody_away(self):
        calls = [ANY] * 3 + SONG + [(THERE, 1, 0)]
        self.assertEqual(few(calls), [3, 2, 3])
        self.assertEqual(few(calls + [(THERE, 1, 1)]), [0])

    def test_one_part_alone(self):
        calls = [ANY] * 3 + SONG
        self.assertEqual(few(calls + [(ONLY, 0, 2)]), [0])
        self.assertEqual(few(calls + [(ONLY, 0, 1), (ONLY, 1, 1)]), [2, 1, 2])

    def test_one_who_will_sing_a_part_that_they_cannot(self):
        calls = [(SINGER, 40, 50), (SINGER, 50, 60), (SINGER, 50, 60)] + SONG
        self.assertEqual(few(calls), [0])
        self.assertEqual(few(calls + [(ONLY, 0, 2)]), [1, 0, 1])

    def test_a_part_dropped(self):
        calls = [ANY] * 2 + [(PART, 40, 50, 1)] * 3 + [(ONLY, 0, 3), (ONLY, 1, 3)]
        self.assertEqual(few(calls), [1, 0, 1])
        self.assertEqual(few(calls + [(DROP, 0)]), [1, 0, 1])
        self.assertEqual(few(calls + [(DROP, 2)]), [0])

    def test_parts_that_need_nobody(self):
        self.assertEqual(few([(PART, 0, 127, 0)]), [0])
        self.assertEqual(few([(PART, 0, 127, 0)] * 6), [0])
        self.assertEqual(few([ANY] + [(PART, 0, 127, 0)] * 6), [0])
        self.assertEqual(few([ANY, (PART, 40, 50, 0), (PART, 40, 50, 2)]), [2, 1, 2])

    def test_a_part_that_needs_twelve(self):
        self.assertEqual(few([ANY] * 12 + [(PART, 40, 50, 12)]), [0])
        self.assertEqual(few([ANY] * 11 + [(PART, 40, 50, 12)]), [1, 11, 12])
        self.assertEqual(few([(PART, 40, 50, 12)]), [1, 0, 12])

    def test_need_changed(self):
        self.assertEqual(few([ANY] * 3 + SONG + [(NEED, 0, 2)]), [3, 3, 4])

    def test_changes_nothing(self):
        calls = [ANY] * 2 + SONG
        self.assertEqual(replies(calls + [(FEW, 0), (FEW, 3), (FEW, 0), (FEW, 25), (FEW, 0)])[-5:],
                         [[3, 2, 3], [3, 2, 3], [3, 2, 3], [-34], [3, 2, 3]])


class AgainstPlainLookTest(unittest.TestCase):
    def test_the_least_of_every_set(self):
        for seed in range(120):
            calls = some_choir(random.Random(seed), 12, 6, 3)
            told = replies(calls + [(FEW, t) for t in ALL_T[seed % 5::5]])[len(calls):]
            singers, parts = all_after(calls)
            wanted = [few_plainly(singers, parts, t) for t in ALL_T[seed % 5::5]]
            self.assertEqual(told, wanted, (seed, calls))

    def test_0_just_where_there_is_a_way_in_small_choirs(self):
        for seed in range(200):
            calls = some_choir(random.Random(seed), 4, 3, 2)
            singers, parts = all_after(calls)
            for t, told in zip(ALL_T, replies(calls + [(FEW, t) for t in ALL_T])[len(calls):]):
                self.assertEqual(told == [0], first_way_plainly(singers, parts, t) is not None, (seed, calls, t))

    def test_0_just_where_there_is_a_way_in_large_ones(self):
        for seed in range(100):
            calls = some_choir(random.Random(seed), 12, 6, 2)
            singers, parts = all_after(calls)
            for t, told in zip(ALL_T, replies(calls + [(FEW, t) for t in ALL_T])[len(calls):]):
                way = first_way_by_leaving_off(singers, parts, t)
                self.assertEqual(told == [0], way is not None, (seed, calls, t))

    def test_0_at_the_t_that_sing_tells(self):
        for seed in range(200):
            calls = some_choir(random.Random(seed), 12, 6, 2)
            sung = reply(calls + [(SING,)])
            if len(sung) > 1:
                self.assertEqual(few(calls, sung[1]), [0], (seed, calls))

    def test_one_who_comes_makes_nothing_worse(self):
        for seed in range(100):
            calls = some_choir(random.Random(seed), 6, 4, 2)
            looks = [(FEW, t) for t in ALL_T]
            before = replies(calls + looks)[-len(looks):]
            behind = replies(calls + [(SINGER, 50, 60)] + looks)[-len(looks):]
            for old, new in zip(before, behind):
                self.assertFalse(old == [0] and new != [0], (seed, calls))


if __name__ == "__main__":
    unittest.main()
