"""Point 1, what is said ahead of the promises, the interface, and what holds: d."""

import contextlib
import io
import unittest

from choirparts.choir import answers
from playing import BEGIN, LARGEST, NEED, ONLY, PART, SINGER, THERE, all_after, firsts, last, line

CHOIR = [(SINGER, 40, 60), (SINGER, 50, 70), (PART, 40, 50, 1), (PART, 50, 60, 2),
         (THERE, 0, 0), (ONLY, 1, 2), (NEED, 0, 3)]
FULL = [(SINGER, 40, 60)] * 12 + [(PART, 40, 50, 1)] * 6 + [(THERE, 4, 0), (ONLY, 5, 6)]
REFUSED_ANYWHERE = [
    (SINGER, 61, 60), (SINGER, 60, 128), (SINGER, LARGEST, LARGEST),
    (THERE, 12, 0), (THERE, LARGEST, 1), (THERE, 1, 2), (THERE, 1, LARGEST),
    (ONLY, 12, 0), (ONLY, LARGEST, 1), (ONLY, 1, 7), (ONLY, 1, LARGEST),
    (PART, 51, 50, 1), (PART, 50, 128, 1), (PART, 40, 50, 13), (PART, LARGEST, LARGEST, LARGEST),
    (NEED, 6, 1), (NEED, LARGEST, 1), (NEED, 1, 13), (NEED, 1, LARGEST),
]
REFUSED_WHEN_FULL = [(SINGER, 40, 60), (PART, 40, 50, 1)]
REFUSED_WITH_TWO = [(THERE, 2, 0), (ONLY, 2, 1), (ONLY, 0, 3), (NEED, 2, 1)]


class BeginTest(unittest.TestCase):
    def test_at_first_nothing_is_there(self):
        self.assertEqual(firsts([(THERE, 0, 0), (ONLY, 0, 0), (NEED, 0, 0)]), [-2, -2, -2])
        self.assertEqual(all_after([]), ([], []))

    def test_begin_answers_0(self):
        self.assertEqual(answers([0]), [1, 0])
        self.assertEqual(answers([0, 0]), [1, 0, 1, 0])
        self.assertEqual(last(FULL + [(BEGIN,)]), 0)

    def test_begin_takes_all_away(self):
        self.assertEqual(all_after(CHOIR + [(BEGIN,)]), ([], []))
        gone = FULL + [(BEGIN,), (THERE, 0, 1), (ONLY, 0, 0), (NEED, 0, 1)]
        self.assertEqual(firsts(gone)[-4:], [0, -2, -2, -2])

    def test_behind_begin_all_is_as_new(self):
        self.assertEqual(firsts(FULL + [(BEGIN,)] + FULL)[len(FULL) + 1:], firsts(FULL))
        self.assertEqual(all_after(FULL + [(BEGIN,)] + CHOIR), all_after(CHOIR))

    def test_parts_are_gone_for_new_singers(self):
        calls = CHOIR + [(BEGIN,), (SINGER, 40, 60), (ONLY, 0, 1), (ONLY, 0, 0)]
        self.assertEqual(firsts(calls)[-3:], [0, -2, 0])


class RefusedTest(unittest.TestCase):
    def check(self, before, refused):
        self.assertLess(last(before + [refused]), 0)
        self.assertEqual(all_after(before + [refused]), all_after(before))

    def test_what_is_refused_changes_nothing(self):
        for before in (CHOIR, FULL):
            for refused in REFUSED_ANYWHERE:
                with self.subTest(refused=refused, singers=len(before)):
                    self.check(before, refused)

    def test_refused_when_full(self):
        for refused in REFUSED_WHEN_FULL:
            with self.subTest(refused=refused):
                self.check(FULL, refused)

    def test_refused_with_two_singers_and_two_parts(self):
        for refused in REFUSED_WITH_TWO:
            with self.subTest(refused=refused):
                self.check(CHOIR, refused)

    def test_numbers_go_on_behind_refusals(self):
        calls = CHOIR + REFUSED_ANYWHERE + [(SINGER, 1, 2), (PART, 1, 2, 3)]
        self.assertEqual(firsts(calls)[-2:], [2, 2])

    def test_refused_without_anything(self):
        for refused in REFUSED_ANYWHERE:
            with self.subTest(refused=refused):
                self.check([(BEGIN,)], refused)


class InterfaceTest(unittest.TestCase):
    def test_each_call_by_its_number(self):
        given = answers([1, 40, 60, 4, 40, 50, 1, 2, 0, 0, 3, 0, 1, 5, 0, 2, 0, 1, 61, 60])
        self.assertEqual(given, [1, 0, 1, 0, 1, 0, 1, 0, 1, 0, 1, 0, 1, -22])

    def test_each_call_alone(self):
        alone = [([0], 0), ([1, 0, 0], 0), ([2, 0, 0], -2), ([3, 0, 0], -2), ([4, 0, 0, 0], 0), ([5, 0, 0], -2)]
        for calls, answer in alone:
            self.assertEqual(answers(calls), [1, answer])

    def test_gives_back_plain_whole_numbers(self):
        given = answers(line(FULL + REFUSED_ANYWHERE + REFUSED_WHEN_FULL + [(BEGIN,)]))
        self.assertIs(type(given), list)
        self.assertEqual({type(number) for number in given}, {int})

    def test_the_list_handed_in_stays(self):
        calls = line(FULL + REFUSED_ANYWHERE + [(BEGIN,)] + CHOIR)
        kept = list(calls)
        given = answers(calls)
        self.assertEqual(calls, kept)
        given.append(0)
        given[0] = 99
        self.assertEqual(calls, kept)

    def test_nothing_is_kept_from_one_time_to_the_next(self):
        first = answers(line(FULL))
        self.assertEqual(answers([3, 0, 0, 2, 0, 0, 5, 0, 0]), [1, -2, 1, -2, 1, -2])
        self.assertEqual(answers([1, 0, 0, 4, 0, 0, 0]), [1, 0, 1, 0])
        self.assertEqual(answers(line(FULL)), first)

    def test_what_was_given_back_is_not_used_again(self):
        first = answers([0])
        first.append(7)
        self.assertEqual(answers([0]), [1, 0])

    def test_most_calls(self):
        self.assertEqual(answers([0] * 5000), [1, 0] * 5000)
        self.assertEqual(answers([4, 1, 0, 0] * 5000), [1, -22] * 5000)

    def test_prints_nothing(self):
        printed = io.StringIO()
        with contextlib.redirect_stdout(printed), contextlib.redirect_stderr(printed):
            answers(line(CHOIR + REFUSED_ANYWHERE))
        self.assertEqual(printed.getvalue(), "")


if __name__ == "__main__":
    unittest.main()
