"""The interface: how calls stand in the list, and how their answers stand in what is given back."""

import unittest

from talkrooms.house import answers
from tests.lines import (HUGE, LineCase, begin, bring, change, find, found, gone, invite, join, leave, lift, line, mark,
                         message, out, past, people, read, remove, rooms, say, seen, split, unread)

SAMPLE = [begin(), found(3, 1), invite(3, 3, 0, 5), join(5, 3, 0), say(5, 3, 0, 0, b"hi there"),
          say(3, 3, 0, 1, b""), lift(3, 3, 0, 5), change(5, 3, 0, 0, b"Ho there"), mark(3, 3, 0, 0, 7),
          read(3, 3, 0, 0), read(3, 3, 0, 1), unread(3, 3, 0), seen(3, 3, 0, 0), unread(3, 3, 0), rooms(3, 0),
          rooms(3, 1), people(3, 3, 0, 1), people(3, 3, 0, 2), find(3, b"ho"), find(3, b"hi"), find(3, b"h!"),
          mark(3, 3, 0, 0, 7), remove(5, 3, 0, 0), read(5, 3, 0, 0), out(5, 3, 0, 3), past(5, 3, 0, 0),
          leave(5, 3, 0), found(16, 0)]


class Form(LineCase):
    def test_written_out_by_hand(self):
        calls = [0, 1, 3, 1, 2, 3, 3, 0, 5, 3, 5, 3, 0, 8, 5, 3, 0, 0, 2, 104, 105, 8, 3, 3, 0, 1, 0,
                 6, 3, 3, 0, 5, 5, 5, 3, 0, 3, 7, 5, 3, 0, 0, 4, 5, 3, 0, 4, 5, 3, 0]
        self.assertEqual(answers(calls),
                         [1, 0, 1, 0, 1, 0, 1, 0, 1, 0, 1, -22, 1, 0, 1, 0, 1, 0, 1, 0, 1, -2])

    def test_calls_9_to_17_written_out_by_hand(self):
        calls = [0, 1, 3, 1, 8, 3, 3, 0, 0, 1, 97, 9, 3, 3, 0, 0, 2, 72, 105, 11, 3, 3, 0, 0, 15, 13, 3, 3, 0, 0,
                 14, 3, 3, 0, 12, 3, 3, 0, 0, 15, 3, 0, 15, 3, 1, 16, 3, 3, 0, 0, 16, 3, 3, 0, 1,
                 17, 3, 0, 2, 104, 73, 17, 3, 1, 2, 104, 105, 17, 3, 0, 0,
                 10, 3, 3, 0, 0, 13, 3, 3, 0, 0, 13, 3, 3, 0, 1]
        wanted = [1, 0, 1, 0, 1, 0, 1, 0, 1, 1,
                  23, 0, 0, 0, 0, 0, 0, 0, 0, 0, 0, 0, 0, 0, 0, 0, 0, 1, 3, 0, 1, 0, 72, 105,
                  1, 0, 1, 0, 5, 1, 3, 0, 2, 1, 1, 0, 3, 1, 3, 1, 1, 0,
                  4, 1, 3, 0, 0, 1, 0, 1, -22, 1, 0,
                  21, 0, 0, 0, 0, 0, 0, 0, 0, 0, 0, 0, 0, 0, 0, 0, 0, 0, 3, 0, 1, 1, 1, -61]
        self.assertEqual(answers(calls), wanted)

    def test_sample(self):
        wanted = [0, 0, 0, 0, 0, -22, 0, 0, 1, message(5, b"Ho there", 0, 1, [(7, 1)]), -61, 1, 0, 0, [1, 3, 0, 2, 1],
                  0, [1, 5, 1], 0, [1, 3, 0, 0], 0, -22, 0, 0, gone(5, 0, 1), 0, 0, 0, -22]
        told = [part if len(part) > 1 else part[0] for part in split(answers(line(SAMPLE)))]
        self.assertEqual(told, wanted)

    def test_begin_alone(self):
        self.assertEqual(answers([0]), [1, 0])

    def test_gives_back_a_list_of_whole_numbers(self):
        told = answers(line(SAMPLE))
        self.assertIs(type(told), list)
        for number in told:
            self.assertIs(type(number), int)

    def test_row_is_skipped_whatever_its_length(self):
        for length in (0, 1, 2, 31, 256, 257, 399, 400):
            wanted = 0 if 1 <= length <= 256 else -22
            with self.subTest(length=length):
                self.check([found(0, 0)], [(say(0, 0, 0, 0, [65] * length), wanted), (found(0, 0), 1)])

    def test_rows_of_change_and_find_are_skipped_whatever_their_length(self):
        before = [found(0, 0), say(0, 0, 0)]
        for length in (0, 1, 2, 31, 32, 33, 256, 257, 399, 400):
            with self.subTest(length=length):
                self.check(before, [(find(0, [66] * length), 0 if 1 <= length <= 32 else -22), (found(0, 0), 1),
                                    (change(0, 0, 0, 0, [66] * length), 0 if 1 <= length <= 256 else -22),
                                    (found(0, 0), 2)])

    def test_word_stands_behind_k(self):
        # The first number behind p is k, so a word as long as k is large is taken apart rightly.
        self.check([found(0, 0)] + [say(0, 0, 0, 0, b"abc")] * 4, [([17, 0, 3, 3, 97, 98, 99], [1, 0, 0, 3]),
                                                                  ([17, 0, 4, 3, 97, 98, 99], 0), (found(0, 0), 1)])

    def test_row_that_looks_like_calls_is_none(self):
        row = [0, 1, 0, 0, 0]
        self.check([found(0, 0), say(0, 0, 0)], [(say(0, 0, 0, 0, row), -22), (change(0, 0, 0, 0, row), -22),
                                                 (find(0, row), -22), (found(0, 0), 1)])

    def test_refused_call_still_has_its_row_skipped(self):
        steps = [(say(16, 0, 0, 0, [0] * 9), -22), (say(0, HUGE, HUGE, HUGE, [65] * 9), -2),
                 (change(16, 0, 0, 0, [0] * 9), -22), (change(0, HUGE, HUGE, HUGE, [65] * 9), -2),
                 (find(16, [0] * 9), -22), (find(0, [65] * 9, HUGE), 0), (found(0, 0), 0)]
        self.check([], steps)


class Handed(LineCase):
    def test_list_is_as_it_was(self):
        calls = line(SAMPLE)
        kept = list(calls)
        answers(calls)
        self.assertEqual(calls, kept)

    def test_list_is_not_changed_for_a_while_either(self):
        class Fixed(list):
            def refuse(self, *args):
                raise AssertionError("changed")
            append = extend = insert = pop = remove = clear = sort = reverse = refuse
            __setitem__ = __delitem__ = __iadd__ = __imul__ = refuse
        self.assertEqual(answers(Fixed(line(SAMPLE))), answers(line(SAMPLE)))

    def test_same_list_twice_gives_the_same(self):
        calls = line(SAMPLE)
        first = answers(calls)
        kept = list(first)
        second = answers(calls)
        self.assertEqual(second, kept)
        second.append(7)
        self.assertEqual(first, kept)

    def test_nothing_is_kept_between_lists(self):
        answers(line([begin()] + [found(0, 1)] * 4 + bring([1, 2]) + [say(0, 0, 0)]))
        self.assertEqual(self.ask([leave(0, 0, 0), join(1, 0, 0), found(0, 0), say(0, 0, 0)]), [-2, -2, 0, 0])
        self.assertEqual(self.ask([say(0, 0, 0)]), [-2])
        self.assertEqual(self.ask([found(0, 0), find(0, b"a"), rooms(0, 1), read(0, 0, 0, 0), say(0, 0, 0),
                                   read(0, 0, 0, 0)]), [0, 0, 0, -61, 0, message(0)])

    def test_what_is_given_back_is_not_tied_to_anything(self):
        calls = line([begin(), found(0, 0), say(0, 0, 0, 0, b"abc"), read(0, 0, 0, 0), read(0, 0, 0, 0)])
        first = answers(calls)
        first[-1] = 0
        self.assertEqual(split(answers(calls))[3:], [message(0, b"abc")] * 2)


class Long(LineCase):
    def test_as_many_calls_and_numbers_as_may_be(self):
        calls = [found(0, 0)] + [say(0, 0, 0, 0, [65] * (5 if k < 16 else 4)) for k in range(2998)]
        self.assertEqual(len(calls) + 1, 3000)
        self.assertEqual(len(line(calls)) + 1, 30000)
        self.same(self.ask(calls), [0] + list(range(128)) + [-28] * (2998 - 128))

    def test_reads_that_tell_most(self):
        calls = [found(0, 0), say(0, 0, 0, 0, [126] * 256)] + [mark(0, 0, 0, 0, kind) for kind in range(16)]
        calls += [read(0, 0, 0, 0)] * (2999 - len(calls))
        told = answers(line([begin()] + calls))
        self.assertEqual(len(calls) + 1, 3000)
        self.assertLess(len(told), 1000000)
        self.same(split(told)[19:], [message(0, [126] * 256, marks=[(kind, 1) for kind in range(16)])] * 2981)

    def test_finds_over_as_many_messages_and_words_as_may_be(self):
        calls = [found(p, 0) for p in range(12)] + [invite(p, p, 0, 0) for p in range(1, 12)]
        calls += [join(0, p, 0) for p in range(1, 12)]
        calls += [say(0, p, 0, 0, b"a b") for p in range(12) for m in range(110)]
        ahead = len(calls)
        calls += [find(0, b"B", k) for k in range(2999 - ahead)]
        self.assertEqual(len(calls) + 1, 3000)
        self.assertLessEqual(len(line(calls)) + 1, 30000)
        wanted = [[1, p, 0, m] for p in range(12) for m in range(110)]
        self.assertLess(len(wanted), 2999 - ahead)
        self.same(self.ask(calls)[ahead:], wanted + [0] * (2999 - ahead - len(wanted)))

    def test_rooms_and_people_all_along(self):
        calls = [found(0, 0)] + bring(range(1, 12)) + [people(k % 12, 0, 0, k % 13) for k in range(1400)]
        calls += [rooms(k % 12, 0) for k in range(2999 - len(calls))]
        told = self.ask(calls)
        self.same(told[23:1423], [[1, k % 13, int(k % 13 == 0)] if k % 13 < 12 else 0 for k in range(1400)])
        self.same(told[1423:], [[1, 0, 0, 2 if k % 12 == 0 else 1, 0] for k in range(2999 - 1423)])

    def test_changes_and_marks_all_along(self):
        calls = [found(0, 0)] + [say(0, 0, 0)] * 10
        calls += [change(0, 0, 0, k % 10, b"b") for k in range(2560)] + [mark(0, 0, 0, k % 10, 0) for k in range(418)]
        calls += [read(0, 0, 0, m) for m in range(10)]
        self.assertEqual(len(calls) + 1, 3000)
        wanted = [0] + list(range(10)) + [0] * 2550 + [-28] * 10 + [int(k // 10 % 2 == 0) for k in range(418)]
        # 418 is 41 times all ten, and once more the first eight.
        wanted += [message(0, b"b", 0, 255, [] if m < 8 else [(0, 1)]) for m in range(10)]
        self.same(self.ask(calls), wanted)

    def test_longest_rows(self):
        calls = [found(0, 0)] + [say(0, 0, 0, 0, [65] * 400)] * 73 + [say(0, 0, 0, 0, [65] * 342)]
        calls += [say(0, 0, 0, 0, [65] * 4)]
        self.assertEqual(len(line(calls)) + 1, 30000)
        self.same(self.ask(calls), [0] + [-22] * 74 + [0])

    def test_three_thousand_begins(self):
        self.same(answers([0] * 3000), [1, 0] * 3000)

    def test_coming_and_going_all_along(self):
        calls = [found(0, 1)] + [invite(0, 0, 0, 1), join(1, 0, 0), leave(1, 0, 0)] * 999
        self.same(self.ask(calls), [0] * 2998)


if __name__ == "__main__":
    unittest.main()
