"""Point 1, what is said ahead of the promises, the interface, and what holds: d."""

import contextlib
import io
import random
import unittest

from choirparts.choir import answers
from playing import (
    BEGIN, CAN, DROP, FEW, LARGEST, NEED, ONLY, PART, SING, SINGER, STATE, THERE, TOO_FAR, all_after, firsts, last,
    line, replies, replies_plainly, reply, seen_after, some_call)

CHOIR = [(SINGER, 40, 60), (SINGER, 50, 70), (PART, 40, 50, 1), (PART, 50, 60, 2),
         (THERE, 0, 0), (ONLY, 1, 2), (NEED, 0, 3)]
FULL = [(SINGER, 40, 60)] * 12 + [(PART, 40, 50, 1)] * 6 + [(THERE, 4, 0), (ONLY, 5, 6)]
REFUSED_ANYWHERE = [
    (SINGER, 61, 60), (SINGER, 60, 128), (SINGER, LARGEST, LARGEST),
    (THERE, 12, 0), (THERE, LARGEST, 1), (THERE, 1, 2), (THERE, 1, LARGEST),
    (ONLY, 12, 0), (ONLY, LARGEST, 1), (ONLY, 1, 7), (ONLY, 1, LARGEST),
    (PART, 51, 50, 1), (PART, 50, 128, 1), (PART, 40, 50, 13), (PART, LARGEST, LARGEST, LARGEST),
    (NEED, 6, 1), (NEED, LARGEST, 1), (NEED, 1, 13), (NEED, 1, LARGEST),
    (DROP, 6), (DROP, LARGEST), (CAN, 12, 0), (CAN, LARGEST, 0),
] + [(FEW, t) for t in TOO_FAR] + [(CAN, 1, t) for t in TOO_FAR]
REFUSED_WHEN_FULL = [(SINGER, 40, 60), (PART, 40, 50, 1)]
REFUSED_WITH_TWO = [(THERE, 2, 0), (ONLY, 2, 1), (ONLY, 0, 3), (NEED, 2, 1), (DROP, 2), (CAN, 2, 0), (SING,)]
REFUSED_WITHOUT_PARTS = [(SING,), (FEW, 0), (FEW, 24), (DROP, 0), (NEED, 0, 0), (ONLY, 0, 1)]


class BeginTest(unittest.TestCase):
    def test_at_first_nothing_is_there(self):
        self.assertEqual(firsts([(THERE, 0, 0), (ONLY, 0, 0), (NEED, 0, 0), (DROP, 0)]), [-2, -2, -2, -2])
        self.assertEqual(replies([(STATE,), (SING,), (FEW, 0), (CAN, 0, 0)]), [[0, 0, 0], [-61], [-61], [-2]])
        self.assertEqual(all_after([]), ([], []))

    def test_begin_answers_0(self):
        self.assertEqual(answers([0]), [1, 0])
        self.assertEqual(answers([0, 0]), [1, 0, 1, 0])
        self.assertEqual(last(FULL + [(BEGIN,)]), 0)

    def test_begin_takes_all_away(self):
        self.assertEqual(all_after(CHOIR + [(BEGIN,)]), ([], []))
        for before in (CHOIR, FULL, CHOIR + [(SING,)], FULL + [(SING,)]):
            gone = before + [(BEGIN,), (STATE,), (SING,), (FEW, 0), (CAN, 0, 0), (DROP, 0)]
            self.assertEqual(replies(gone)[-6:], [[0], [0, 0, 0], [-61], [-61], [-2], [-2]])
            self.assertEqual(seen_after(before + [(BEGIN,)]), seen_after([]))
        gone = FULL + [(BEGIN,), (THERE, 0, 1), (ONLY, 0, 0), (NEED, 0, 1)]
        self.assertEqual(firsts(gone)[-4:], [0, -2, -2, -2])

    def test_behind_begin_all_is_as_new(self):
        self.assertEqual(firsts(FULL + [(BEGIN,)] + FULL)[len(FULL) + 1:], firsts(FULL))
        self.assertEqual(all_after(FULL + [(BEGIN,)] + CHOIR), all_after(CHOIR))
        self.assertEqual(seen_after(FULL + [(BEGIN,)] + CHOIR), seen_after(CHOIR))
        self.assertEqual(seen_after(CHOIR + [(SING,), (BEGIN,)] + FULL), seen_after(FULL))

    def test_parts_are_gone_for_new_singers(self):
        calls = CHOIR + [(BEGIN,), (SINGER, 40, 60), (ONLY, 0, 1), (ONLY, 0, 0)]
        self.assertEqual(firsts(calls)[-3:], [0, -2, 0])


class RefusedTest(unittest.TestCase):
    def check(self, before, refused):
        given = reply(before + [refused])
        self.assertEqual(len(given), 1)
        self.assertLess(given[0], 0)
        self.assertEqual(all_after(before + [refused]), all_after(before))
        self.assertEqual(seen_after(before + [refused]), seen_after(before))

    def test_what_is_refused_changes_nothing(self):
        for before in (CHOIR, FULL):
            for refused in REFUSED_ANYWHERE:
                with self.subTest(refused=refused, calls=len(before)):
                    self.check(before, refused)

    def test_refused_when_full(self):
        for refused in REFUSED_WHEN_FULL:
            with self.subTest(refused=refused):
                self.check(FULL, refused)

    def test_refused_with_two_singers_and_two_parts(self):
        for refused in REFUSED_WITH_TWO:
            with self.subTest(refused=refused):
                self.check(CHOIR, refused)

    def test_refused_without_parts(self):
        for before in ([(BEGIN,)], [(SINGER, 40, 60)], [(SINGER, 40, 60)] * 12, [(PART, 40, 50, 1), (DROP, 0)]):
            for refused in REFUSED_WITHOUT_PARTS:
                with self.subTest(refused=refused, calls=len(before)):
                    self.check(before, refused)

    def test_all_refused_together(self):
        self.assertEqual(seen_after(FULL + REFUSED_ANYWHERE + REFUSED_WHEN_FULL), seen_after(FULL))
        self.assertEqual(seen_after(CHOIR + REFUSED_ANYWHERE + REFUSED_WITH_TWO), seen_after(CHOIR))

    def test_numbers_go_on_behind_refusals(self):
        calls = CHOIR + REFUSED_ANYWHERE + [(SINGER, 1, 2), (PART, 1, 2, 3)]
        self.assertEqual(firsts(calls)[-2:], [2, 2])

    def test_refused_without_anything(self):
        for refused in REFUSED_ANYWHERE:
            with self.subTest(refused=refused):
                self.check([(BEGIN,)], refused)


class InterfaceTest(unittest.TestCase):
    def test_each_call_by_its_number(self):
        given = answers([1, 40, 60, 4, 40, 50, 1, 2, 0, 0, 3, 0, 1, 5, 0, 2, 0, 1, 61, 60])
        self.assertEqual(given, [1, 0, 1, 0, 1, 0, 1, 0, 1, 0, 1, 0, 1, -22])
        given = answers([1, 40, 60, 1, 39, 59, 4, 39, 49, 1, 4, 41, 51, 2, 7, 8, 0, 8, -1, 9, 1, -1, 10, 6, 1, 7, 8, 0])
        self.assertEqual(given, [
            1, 0, 1, 1, 1, 0, 1, 1, 1, -33, 3, 3, 2, 3, 3, 1, 0, 1, 1, 2, 3, 2, 2, 2, 1, 1, 4, 2, 0, 0, 1, 1, 0])

    def test_each_call_alone(self):
        alone = [([0], 0), ([1, 0, 0], 0), ([2, 0, 0], -2), ([3, 0, 0], -2), ([4, 0, 0, 0], 0), ([5, 0, 0], -2),
                 ([6, 0], -2), ([7], -61), ([8, 0], -61), ([9, 0, 0], -2)]
        for calls, answer in alone:
            self.assertEqual(answers(calls), [1, answer])
        self.assertEqual(answers([10]), [3, 0, 0, 0])

    def test_how_many_numbers_are_answered(self):
        self.assertEqual(answers([4, 0, 0, 0, 7]), [1, 0, 2, 0, 0])
        self.assertEqual(answers([4, 0, 0, 1, 8, 0, 8, 25]), [1, 0, 3, 1, 0, 1, 1, -34])
        self.assertEqual(answers([4, 0, 0, 0, 8, 0]), [1, 0, 1, 0])
        sung = answers([1, 23, 50] * 12 + [4, 24, 50, 12, 7])
        self.assertEqual(sung[-15:], [14, 12, 0] + [1] * 12)
        sung = answers([1, 23, 49] * 12 + [4, 24, 50, 12, 7])
        self.assertEqual(sung[-15:], [14, 12, -1] + [1] * 12)

    def test_gives_back_plain_whole_numbers(self):
        looks = [(SING,), (FEW, 0), (FEW, -3), (CAN, 0, 0), (CAN, 4, 0), (STATE,)]
        given = answers(line(CHOIR + looks + [(BEGIN,)] + FULL + looks + REFUSED_ANYWHERE + REFUSED_WHEN_FULL))
        self.assertIs(type(given), list)
        self.assertEqual({type(number) for number in given}, {int})

    def test_the_list_handed_in_stays(self):
        looks = [(SING,), (FEW, 0), (CAN, 0, 0), (STATE,), (DROP, 0), (SING,), (FEW, 0), (CAN, 0, 0)]
        calls = line(FULL + looks + REFUSED_ANYWHERE + [(BEGIN,)] + CHOIR + looks)
        kept = list(calls)
        given = answers(calls)
        self.assertEqual(calls, kept)
        given.append(0)
        given[0] = 99
        self.assertEqual(calls, kept)

    def test_nothing_is_kept_from_one_time_to_the_next(self):
        first = answers(line(FULL))
        self.assertEqual(answers([3, 0, 0, 2, 0, 0, 5, 0, 0]), [1, -2, 1, -2, 1, -2])
        self.assertEqual(answers([1, 0, 0, 4, 0, 0, 0]), [1, 0, 1, 0])
        self.assertEqual(answers(line(FULL)), first)

    def test_two_lists_do_not_see_each_other(self):
        looks = [(STATE,), (SING,), (FEW, 0), (CAN, 0, 0)]
        nothing = [[0, 0, 0], [-61], [-61], [-2]]
        self.assertEqual(replies(looks), nothing)
        full = replies(FULL + looks)
        self.assertEqual(replies(looks), nothing)
        two = replies(CHOIR + looks)
        self.assertEqual(replies(FULL + looks), full)
        self.assertEqual(replies(CHOIR + looks), two)
        self.assertEqual(replies(looks), nothing)

    def test_what_was_given_back_is_not_used_again(self):
        first = answers([0])
        first.append(7)
        self.assertEqual(answers([0]), [1, 0])

    def test_most_calls(self):
        self.assertEqual(answers([0] * 5000), [1, 0] * 5000)
        self.assertEqual(answers([4, 1, 0, 0] * 5000), [1, -22] * 5000)
        self.assertEqual(answers([7] * 5000), [1, -61] * 5000)
        self.assertEqual(answers([10] * 5000), [3, 0, 0, 0] * 5000)

    # The largest choir, of which every singer can sing every part; by its need of 13 no t has enough.
    LARGEST_CHOIR = [1, 0, 127] * 12 + [4, 50, 60, 2] * 6
    NEVER = LARGEST_CHOIR + [5, 5, 3]

    def test_most_calls_of_sing(self):
        told = [14, 12, 0, 1, 1, 2, 2, 3, 3, 4, 4, 5, 5, 6, 6]
        self.assertEqual(answers(self.LARGEST_CHOIR + [7] * 4982)[36:], told * 4982)
        self.assertEqual(answers(self.NEVER + [7] * 4981)[38:], [1, -33] * 4981)

    def test_most_calls_of_sing_with_a_change_before_each(self):
        given = answers(self.NEVER + [2, 11, 1, 7] * 2490)
        self.assertEqual(given[38:], [1, 0, 1, -33] * 2490)
        far = [1, 103, 103] * 12 + [4, 127, 127, 2] * 6
        told = [1, 0, 14, 12, -24, 1, 1, 2, 2, 3, 3, 4, 4, 5, 5, 6, 6]
        self.assertEqual(answers(far + [2, 11, 1, 7] * 2490)[36:], told * 2490)

    def test_most_calls_of_few_and_can(self):
        self.assertEqual(answers(self.LARGEST_CHOIR + [8, 24] * 4982)[36:], [1, 0] * 4982)
        self.assertEqual(answers(self.NEVER + [8, -24] * 4981)[38:], [3, 63, 12, 13] * 4981)
        self.assertEqual(answers(self.LARGEST_CHOIR + [9, 11, 24] * 4982)[36:], [1, 63] * 4982)

    def test_whole_lines_against_the_plain_choir(self):
        for seed in range(40):
            dice = random.Random(seed)
            calls = [some_call(dice) for _ in range(150)]
            for call, given, wanted in zip(calls, replies(calls), replies_plainly(calls)):
                self.assertEqual(given, wanted, (seed, call))

    def test_prints_nothing(self):
        printed = io.StringIO()
        with contextlib.redirect_stdout(printed), contextlib.redirect_stderr(printed):
            answers(line(CHOIR + [(SING,), (FEW, 0), (CAN, 0, 0), (STATE,), (DROP, 0)] + REFUSED_ANYWHERE))
        self.assertEqual(printed.getvalue(), "")


if __name__ == "__main__":
    unittest.main()
