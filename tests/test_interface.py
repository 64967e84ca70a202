"""The interface: how calls stand in the list, and how their answers stand in what is given back."""

import unittest

from talkrooms.house import answers
from tests.lines import HUGE, LineCase, begin, bring, found, invite, join, leave, lift, line, out, past, say

SAMPLE = [begin(), found(3, 1), invite(3, 3, 0, 5), join(5, 3, 0), say(5, 3, 0, 0, b"hi there"),
          say(3, 3, 0, 1, b""), lift(3, 3, 0, 5), out(5, 3, 0, 3), past(5, 3, 0, 0), leave(5, 3, 0), found(16, 0)]


class Form(LineCase):
    def test_written_out_by_hand(self):
        calls = [0, 1, 3, 1, 2, 3, 3, 0, 5, 3, 5, 3, 0, 8, 5, 3, 0, 0, 2, 104, 105, 8, 3, 3, 0, 1, 0,
                 6, 3, 3, 0, 5, 5, 5, 3, 0, 3, 7, 5, 3, 0, 0, 4, 5, 3, 0, 4, 5, 3, 0]
        self.assertEqual(answers(calls),
                         [1, 0, 1, 0, 1, 0, 1, 0, 1, 0, 1, -22, 1, 0, 1, 0, 1, 0, 1, 0, 1, -2])

    def test_begin_alone(self):
        self.assertEqual(answers([0]), [1, 0])

    def test_gives_back_a_list_of_whole_numbers(self):
        told = answers(line(SAMPLE))
        self.assertIs(type(told), list)
        for number in told:
            self.assertIs(type(number), int)

    def test_row_is_skipped_whatever_its_length(self):
        for length in (0, 1, 2, 31, 256, 257, 399, 400):
            wanted = 0 if 1 <= length <= 256 else -22
            with self.subTest(length=length):
                self.check([found(0, 0)], [(say(0, 0, 0, 0, [65] * length), wanted), (found(0, 0), 1)])

    def test_row_that_looks_like_calls_is_none(self):
        self.check([found(0, 0)], [(say(0, 0, 0, 0, [0, 1, 0, 0, 0]), -22), (found(0, 0), 1)])

    def test_refused_say_still_has_its_row_skipped(self):
        steps = [(say(16, 0, 0, 0, [0] * 9), -22), (say(0, HUGE, HUGE, HUGE, [65] * 9), -2), (found(0, 0), 0)]
        self.check([], steps)


class Handed(LineCase):
    def test_list_is_as_it_was(self):
        calls = line(SAMPLE)
        kept = list(calls)
        answers(calls)
        self.assertEqual(calls, kept)

    def test_list_is_not_changed_for_a_while_either(self):
        class Fixed(list):
            def refuse(self, *args):
                raise AssertionError("changed")
            append = extend = insert = pop = remove = clear = sort = reverse = refuse
            __setitem__ = __delitem__ = __iadd__ = __imul__ = refuse
        self.assertEqual(answers(Fixed(line(SAMPLE))), answers(line(SAMPLE)))

    def test_same_list_twice_gives_the_same(self):
        calls = line(SAMPLE)
        first = answers(calls)
        kept = list(first)
        second = answers(calls)
        self.assertEqual(second, kept)
        second.append(7)
        self.assertEqual(first, kept)

    def test_nothing_is_kept_between_lists(self):
        answers(line([begin()] + [found(0, 1)] * 4 + bring([1, 2]) + [say(0, 0, 0)]))
        self.assertEqual(self.ask([leave(0, 0, 0), join(1, 0, 0), found(0, 0), say(0, 0, 0)]), [-2, -2, 0, 0])
        self.assertEqual(self.ask([say(0, 0, 0)]), [-2])


class Long(LineCase):
    def test_as_many_calls_and_numbers_as_may_be(self):
        calls = [found(0, 0)] + [say(0, 0, 0, 0, [65] * (5 if k < 16 else 4)) for k in range(2998)]
        self.assertEqual(len(calls) + 1, 3000)
        self.assertEqual(len(line(calls)) + 1, 30000)
        self.same(self.ask(calls), [0] + list(range(128)) + [-28] * (2998 - 128))

    def test_longest_rows(self):
        calls = [found(0, 0)] + [say(0, 0, 0, 0, [65] * 400)] * 73 + [say(0, 0, 0, 0, [65] * 342)]
        calls += [say(0, 0, 0, 0, [65] * 4)]
        self.assertEqual(len(line(calls)) + 1, 30000)
        self.same(self.ask(calls), [0] + [-22] * 74 + [0])

    def test_three_thousand_begins(self):
        self.same(answers([0] * 3000), [1, 0] * 3000)

    def test_coming_and_going_all_along(self):
        calls = [found(0, 1)] + [invite(0, 0, 0, 1), join(1, 0, 0), leave(1, 0, 0)] * 999
        self.same(self.ask(calls), [0] * 2998)


if __name__ == "__main__":
    unittest.main()
