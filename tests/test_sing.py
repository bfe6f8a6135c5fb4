"""Point 4: sing; and what holds: a, b, c."""

import random
import unittest

from playing import (
    ALL_T, BEGIN, CAN, DROP, FEW, LARGEST, NEAREST_FIRST, NEED, ONLY, PART, SING, SINGER, STATE, THERE, all_after,
    first_way_by_leaving_off, replies, reply, sing_plainly, some_choir)

ANY = (SINGER, 0, 127)


def sing(calls):
    return reply(calls + [(SING,)])


class RefusalTest(unittest.TestCase):
    def test_no_parts(self):
        self.assertEqual(sing([]), [-61])
        self.assertEqual(sing([ANY]), [-61])
        self.assertEqual(sing([ANY] * 12), [-61])

    def test_no_parts_any_more(self):
        song = [ANY, (PART, 40, 50, 1)]
        self.assertEqual(sing(song + [(DROP, 0)]), [-61])
        self.assertEqual(sing(song + [(BEGIN,)]), [-61])

    def test_never_enough(self):
        self.assertEqual(sing([(PART, 40, 50, 1)]), [-33])
        self.assertEqual(sing([ANY, (PART, 40, 50, 2)]), [-33])
        self.assertEqual(sing([(SINGER, 40, 45), (PART, 40, 50, 1)]), [-33])
        self.assertEqual(sing([ANY] * 12 + [(PART, 40, 50, 12), (PART, 40, 50, 1)]), [-33])
        self.assertEqual(sing([ANY] * 12 + [(PART, 40, 50, 12)] * 6), [-33])

    def test_each_part_alone_has_enough_but_not_both(self):
        self.assertEqual(sing([ANY, (PART, 40, 50, 1), (PART, 50, 60, 1)]), [-33])

    def test_enough_for_one_part_at_one_t_for_the_other_at_another(self):
        voices = [(SINGER, 40, 40), (SINGER, 60, 60)]
        self.assertEqual(sing(voices + [(PART, 41, 41, 1), (PART, 59, 59, 1)]), [-33])
        self.assertEqual(sing(voices + [(PART, 41, 41, 1), (PART, 61, 61, 1)]), [2, -1, 1, 2])

    def test_all_away(self):
        self.assertEqual(sing([ANY, (PART, 40, 50, 1), (THERE, 0, 0)]), [-33])


class HowMuchTest(unittest.TestCase):
    def test_as_it_stands(self):
        self.assertEqual(sing([(SINGER, 40, 50), (PART, 40, 50, 1)]), [1, 0, 1])
        self.assertEqual(sing([(SINGER, 0, 127), (PART, 0, 127, 1)]), [1, 0, 1])

    def test_each_way_within_two_octaves_and_one_beyond(self):
        for t in range(-26, 27):
            wanted = [1, t, 1] if -24 <= t <= 24 else [-33]
            self.assertEqual(sing([(SINGER, 60 + t, 60 + t), (PART, 60, 60, 1)]), wanted)

    def test_the_lowest_and_the_highest_note_must_fit(self):
        self.assertEqual(sing([(SINGER, 41, 60), (PART, 40, 50, 1)]), [1, 1, 1])
        self.assertEqual(sing([(SINGER, 30, 49), (PART, 40, 50, 1)]), [1, -1, 1])

    def test_up_before_down(self):
        # Two voices, one higher and one lower: the part fits one by t up, the other by t down.
        for t in range(1, 25):
            voices = [(SINGER, 60 - t, 60 - t), (SINGER, 60 + t, 60 + t)]
            self.assertEqual(sing(voices + [(PART, 60, 60, 1)]), [2, t, 0, 1])
            self.assertEqual(sing(voices[::-1] + [(PART, 60, 60, 1)]), [2, t, 1, 0])

    def test_down_where_that_is_nearer(self):
        for t in range(1, 25):
            voices = [(SINGER, 60 - t, 60 - t), (SINGER, 61 + t, 61 + t)]
            self.assertEqual(sing(voices + [(PART, 60, 60, 1)]), [2, -t, 1, 0])
            voices = [(SINGER, 59 - t, 59 - t), (SINGER, 60 + t, 60 + t)]
            self.assertEqual(sing(voices + [(PART, 60, 60, 1)]), [2, t, 0, 1])

    def test_all_parts_are_sung_so_much_higher(self):
        calls = [(SINGER, 44, 47), (SINGER, 54, 57), (PART, 40, 42, 1), (PART, 50, 52, 1)]
        self.assertEqual(sing(calls), [2, 4, 1, 2])

    def test_no_note_lies_beyond_those_of_a_voice(self):
        self.assertEqual(sing([(SINGER, 0, 126), (PART, 0, 127, 1)]), [-33])
        self.assertEqual(sing([(SINGER, 0, 126), (PART, 1, 127, 1)]), [1, -1, 1])


class FirstWayTest(unittest.TestCase):
    def test_any_part_before_none(self):
        self.assertEqual(sing([ANY] * 3 + [(PART, 40, 50, 1)]), [3, 0, 1, 0, 0])

    def test_the_lesser_part_before_the_greater(self):
        self.assertEqual(sing([ANY] * 2 + [(PART, 50, 60, 1), (PART, 40, 50, 1)]), [2, 0, 1, 2])
        self.assertEqual(sing([ANY] * 4 + [(PART, 40, 50, 2), (PART, 40, 50, 2)]), [4, 0, 1, 1, 2, 2])

    def test_the_greater_part_where_the_lesser_is_the_others_only_one(self):
        calls = [ANY, (SINGER, 40, 50), (PART, 40, 50, 1), (PART, 50, 60, 1)]
        self.assertEqual(sing(calls), [2, 0, 2, 1])

    def test_a_greater_part_before_none(self):
        calls = [ANY, (SINGER, 40, 50), (SINGER, 50, 60), (PART, 40, 50, 1), (PART, 50, 60, 1)]
        self.assertEqual(sing(calls), [3, 0, 1, 0, 2])
        calls = [(SINGER, 50, 60), ANY, (SINGER, 40, 50), (PART, 40, 50, 1), (PART, 50, 60, 1)]
        self.assertEqual(sing(calls), [3, 0, 2, 1, 0])

    def test_one_for_whom_nothing_is_left(self):
        calls = [(SINGER, 40, 50)] * 2 + [ANY, (PART, 40, 50, 1), (PART, 50, 60, 1)]
        self.assertEqual(sing(calls), [3, 0, 1, 0, 2])

    def test_the_first_singer_counts_before_the_second(self):
        # Told 1 the first leaves the second with nothing that they can sing; the first way is so all the same.
        calls = [ANY, (SINGER, 40, 50), ANY, (PART, 40, 50, 1), (PART, 60, 70, 1)]
        self.assertEqual(sing(calls), [3, 0, 1, 0, 2])

    def test_a_chain_of_only_ones(self):
        calls = [(SINGER, 30, 60), (SINGER, 20, 50), (SINGER, 20, 40),
                 (PART, 30, 40, 1), (PART, 40, 50, 1), (PART, 50, 60, 1)]
        self.assertEqual(sing(calls), [3, 0, 3, 2, 1])

    def test_twelve_singers_and_six_parts(self):
        self.assertEqual(sing([ANY] * 12 + [(PART, 40, 50, 2)] * 6), [12, 0, 1, 1, 2, 2, 3, 3, 4, 4, 5, 5, 6, 6])
        calls = [ANY] * 12 + [(PART, 40, 50, 1)] * 6
        self.assertEqual(sing(calls), [12, 0, 1, 2, 3, 4, 5, 6] + [0] * 6)
        alone = [(ONLY, 11 - n, n + 1) for n in range(6)]
        self.assertEqual(sing(calls + alone), [12, 0, 1, 2, 3, 4, 5, 6] + [0] * 6)
        away = [(THERE, n, 0) for n in range(6)]
        self.assertEqual(sing(calls + alone + away), [12, 0] + [0] * 6 + [6, 5, 4, 3, 2, 1])


class WhereItBreaksTest(unittest.TestCase):
    def test_the_only_one_who_can_sing_two_parts(self):
        calls = [(SINGER, 40, 60), (SINGER, 40, 50), (PART, 40, 50, 1), (PART, 50, 60, 1)]
        self.assertEqual(sing(calls), [2, 0, 2, 1])
        self.assertEqual(sing(calls[:1] + calls[2:]), [-33])
        self.assertEqual(sing(calls + [(THERE, 1, 0)]), [-33])
        self.assertEqual(sing(calls + [(NEED, 0, 0)]), [2, 0, 2, 0])
        self.assertEqual(sing(calls + [(NEED, 1, 0)]), [2, 0, 1, 0])

    def test_a_part_dropped_and_who_would_sing_the_next_one_alone(self):
        calls = [ANY] * 3 + [(PART, 40, 50, 1)] * 3 + [(ONLY, 0, 3), (ONLY, 1, 1)]
        self.assertEqual(sing(calls), [3, 0, 3, 1, 2])
        self.assertEqual(sing(calls + [(DROP, 0)]), [3, 0, 2, 1, 0])
        self.assertEqual(sing(calls + [(DROP, 1)]), [3, 0, 2, 1, 0])
        self.assertEqual(sing(calls + [(DROP, 2)]), [3, 0, 1, 0, 2])
        self.assertEqual(sing(calls + [(DROP, 0), (DROP, 0)]), [3, 0, 1, 0, 0])

    def test_somebody_away(self):
        calls = [ANY] * 2 + [(PART, 40, 50, 1)]
        self.assertEqual(sing(calls + [(THERE, 0, 0)]), [2, 0, 0, 1])
        self.assertEqual(sing(calls + [(THERE, 0, 0), (THERE, 0, 1)]), [2, 0, 1, 0])
        # Away is away, also where the one left sings it otherwise.
        calls = [(SINGER, 40, 50), (SINGER, 45, 55), (PART, 40, 50, 1), (THERE, 0, 0)]
        self.assertEqual(sing(calls), [2, 5, 0, 1])

    def test_a_part_that_needs_nobody(self):
        self.assertEqual(sing([ANY, (PART, 40, 50, 0), (PART, 40, 50, 1)]), [1, 0, 2])
        self.assertEqual(sing([ANY, (PART, 40, 50, 1), (PART, 40, 50, 0)]), [1, 0, 1])
        # Nobody needs to sing it, so nobody needs to be able to.
        self.assertEqual(sing([(SINGER, 40, 50), (PART, 0, 127, 0), (PART, 40, 50, 1)]), [1, 0, 2])

    def test_all_parts_need_nobody(self):
        self.assertEqual(sing([ANY] * 2 + [(PART, 40, 50, 0)] * 6), [2, 0, 0, 0])
        self.assertEqual(sing([(SINGER, 0, 0), (PART, 0, 127, 0)]), [1, 0, 0])

    def test_no_singers(self):
        self.assertEqual(sing([(PART, 40, 50, 0)]), [0, 0])
        self.assertEqual(sing([(PART, 40, 50, 0)] * 6), [0, 0])
        self.assertEqual(sing([(PART, 40, 50, 0)] * 5 + [(PART, 40, 50, 1)]), [-33])

    def test_a_part_that_needs_twelve(self):
        self.assertEqual(sing([ANY] * 12 + [(PART, 40, 50, 12)]), [12, 0] + [1] * 12)
        self.assertEqual(sing([ANY] * 11 + [(PART, 40, 50, 12)]), [-33])
        self.assertEqual(sing([ANY] * 12 + [(PART, 40, 50, 12), (THERE, 7, 0)]), [-33])

    def test_one_who_will_sing_a_part_that_they_cannot(self):
        calls = [(SINGER, 40, 50), (SINGER, 40, 60), (PART, 40, 50, 1), (PART, 50, 60, 1), (ONLY, 0, 2)]
        self.assertEqual(sing(calls), [-33])
        self.assertEqual(sing(calls + [(NEED, 1, 0)]), [2, 0, 0, 1])
        self.assertEqual(sing(calls + [(ONLY, 0, 0)]), [2, 0, 1, 2])
        # Low enough they can.
        self.assertEqual(sing(calls + [(NEED, 0, 0), (THERE, 1, 0)]), [2, -10, 2, 0])

    def test_one_part_alone(self):
        calls = [ANY] * 2 + [(PART, 40, 50, 1), (PART, 40, 50, 1)]
        self.assertEqual(sing(calls + [(ONLY, 0, 2)]), [2, 0, 2, 1])
        self.assertEqual(sing(calls + [(ONLY, 0, 2), (ONLY, 1, 2)]), [-33])


class AskedAgainTest(unittest.TestCase):
    CALLS = [(SINGER, 40, 60), (SINGER, 45, 60), (PART, 42, 50, 1), (PART, 45, 50, 1)]

    def test_changes_nothing(self):
        self.assertEqual(replies(self.CALLS + [(SING,)] * 3)[-3:], [[2, 0, 1, 2]] * 3)
        self.assertEqual(sing(self.CALLS + [(FEW, 3), (CAN, 0, 3), (STATE,)]), [2, 0, 1, 2])

    def test_sees_each_change_since(self):
        changes = [(SINGER, 0, 127), (THERE, 0, 0), (ONLY, 0, 2), (PART, 0, 127, 1), (NEED, 0, 2), (DROP, 0), (BEGIN,)]
        told = [[3, 0, 1, 2, 0], [-33], [2, 3, 2, 1], [-33], [-33], [2, 0, 1, 0], [-61]]
        for change, wanted in zip(changes, told):
            with self.subTest(change=change):
                self.assertEqual(sing(self.CALLS + [change]), wanted)
                self.assertEqual(sing(self.CALLS + [(SING,), change]), wanted)
                self.assertEqual(sing(self.CALLS + [(SING,), change, (SING,)]), wanted)

    def test_sees_each_change_back(self):
        back = [(THERE, 0, 0), (SING,), (THERE, 0, 1), (SING,), (NEED, 1, 0), (SING,), (NEED, 1, 1)]
        self.assertEqual(sing(self.CALLS + [(SING,)] + back), [2, 0, 1, 2])

    def test_a_refused_call_leaves_it(self):
        for refused in ((SINGER, 1, 0), (THERE, 2, 0), (ONLY, 0, 3), (PART, 0, 128, 0), (NEED, 0, 13), (DROP, LARGEST)):
            self.assertEqual(replies(self.CALLS + [(SING,), refused, (SING,)])[-1], [2, 0, 1, 2])


class AgainstSearchTest(unittest.TestCase):
    def test_small_choirs_against_all_ways(self):
        for seed in range(400):
            calls = some_choir(random.Random(seed), 5, 3, 2)
            self.assertEqual(sing(calls), sing_plainly(*all_after(calls)), (seed, calls))

    def test_choirs_of_up_to_twelve_and_six(self):
        for seed in range(400):
            calls = some_choir(random.Random(seed), 12, 6, 3)
            wanted = sing_plainly(*all_after(calls), first_way_by_leaving_off)
            self.assertEqual(sing(calls), wanted, (seed, calls))

    def test_who_is_told_a_part_can_sing_it_and_as_many_as_needed(self):
        told = 0
        for seed in range(200):
            calls = some_choir(random.Random(seed), 12, 6, 2)
            given = sing(calls)
            if len(given) == 1:
                continue
            told += 1
            cans = replies(calls + [(CAN, singer, given[1]) for singer in range(given[0])])[len(calls):]
            for (bits,), part in zip(cans, given[2:]):
                self.assertTrue(part == 0 or bits & 1 << part - 1, (seed, calls))
            for number, part in enumerate(all_after(calls)[1]):
                self.assertEqual(given[2:].count(number + 1), part[2], (seed, calls))
        self.assertGreater(told, 50)

    def test_nothing_nearer_has_singers_enough(self):
        for seed in range(200):
            calls = some_choir(random.Random(seed), 8, 5, 2)
            given = sing(calls)
            short = dict(zip(ALL_T, replies(calls + [(FEW, t) for t in ALL_T])[len(calls):]))
            enough = [t for t in NEAREST_FIRST if short[t] == [0]]
            self.assertEqual(given[1] if len(given) > 1 else None, enough[0] if enough else None, (seed, calls))

    def test_one_who_comes_makes_nothing_worse(self):
        for seed in range(200):
            dice = random.Random(seed)
            calls = some_choir(dice, 6, 4, 2)
            low = dice.randint(40, 70)
            more = calls + [(SINGER, low, low + dice.randint(0, 20))]
            before, behind = sing(calls), sing(more)
            if len(before) > 1:
                self.assertLessEqual(NEAREST_FIRST.index(behind[1]), NEAREST_FIRST.index(before[1]), (seed, calls))
            away = more + [(THERE, len(all_after(more)[0]) - 1, 0)]
            self.assertEqual(sing(away)[1:-1], before[1:], (seed, calls))


if __name__ == "__main__":
    unittest.main()
