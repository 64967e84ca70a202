"""Point 1: begin, found."""

import unittest

from tests.lines import (HUGE, LineCase, begin, bring, change, find, found, invite, join, leave, lift, mark, message,
                         past, people, read, rooms, say, seen, unread)


class Begin(LineCase):
    def test_again_in_the_middle_nothing_has_been_founded(self):
        before = [found(0, 1)] * 4 + bring([1]) + [invite(0, 0, 0, 2), say(0, 0, 0), say(1, 0, 0)]
        steps = [(begin(), 0), (say(0, 0, 0), -2), (say(1, 0, 0), -2), (join(2, 0, 0), -2), (leave(0, 0, 3), -2),
                 (found(0, 0), 0), (join(2, 0, 0), -2), (say(1, 0, 0), -2), (say(0, 0, 0, 1), -61),
                 (say(0, 0, 0), 0), (found(0, 0), 1), (found(0, 0), 2), (found(0, 0), 3), (found(0, 0), -28)]
        self.check(before, steps)

    def test_again_in_the_middle_nothing_is_told_of_what_was(self):
        before = [found(0, 1)] + bring([1]) + [invite(0, 0, 0, 2), say(1, 0, 0), say(1, 0, 0), mark(0, 0, 0, 0, 3),
                                               change(1, 0, 0, 0, b"b"), seen(0, 0, 0, 0)]
        steps = [(begin(), 0)] + [(rooms(p, 0), 0) for p in range(3)] + [(find(p, b"b"), 0) for p in range(3)]
        steps += [(read(0, 0, 0, 0), -2), (unread(0, 0, 0), -2), (people(0, 0, 0, 0), -2), (found(0, 1), 0),
                  (rooms(0, 0), [1, 0, 0, 2, 0]), (rooms(0, 1), 0), (people(0, 0, 0, 0), [1, 0, 1]),
                  (people(0, 0, 0, 1), 0), (read(0, 0, 0, 0), -61), (invite(0, 0, 0, 1), 0), (join(1, 0, 0), 0),
                  (say(1, 0, 0, 0, b"c"), 0), (read(0, 0, 0, 0), message(1, b"c")), (unread(0, 0, 0), 1),
                  (find(0, b"b"), 0), (find(0, b"c"), [1, 0, 0, 0]), (mark(0, 0, 0, 0, 3), 1)]
        self.check(before, steps)

    def test_for_every_founder(self):
        before = [found(p, 0) for p in range(16)] + [begin()]
        self.check(before, [(leave(p, p, 0), -2) for p in range(16)] + [(found(p, 0), 0) for p in range(16)])


class Found(LineCase):
    def test_numbers_from_0_to_3_then_none(self):
        for p in (0, 1, 7, 15):
            with self.subTest(p=p):
                numbers = (0, 1, 2, 3, -28, -28)
                self.check([], [(found(p, k % 2), numbers[k]) for k in range(6)])

    def test_each_founder_counts_alone(self):
        steps = [(found(p, 0), number) for number in (0, 1, 2, 3, -28) for p in range(16)]
        self.check([], steps)

    def test_who_left_has_still_founded(self):
        steps = []
        for number in range(4):
            steps += [(found(2, 0), number), (leave(2, 2, number), 0)]
        self.check([], steps + [(found(2, 0), -28)])

    def test_past_at_the_edges(self):
        for shown, wanted in ((0, 0), (1, 0), (2, -22), (3, -22), (255, -22), (256, -22), (HUGE, -22)):
            with self.subTest(past=shown):
                self.check([], [(found(0, shown), wanted)])

    def test_past_above_1_goes_before_four_founded(self):
        self.check([found(0, 0)] * 4, [(found(0, 2), -22), (found(0, 1), -28)])

    def test_founder_is_alone_in_it(self):
        steps = [(say(q, 3, 0), -2) for q in range(16) if q != 3] + [(join(q, 3, 0), -2) for q in range(16)]
        self.check([found(3, 0)], steps + [(say(3, 3, 0), 0)])

    def test_founder_is_a_keeper(self):
        for number in range(4):
            with self.subTest(number=number):
                steps = [(past(0, 0, number, 1), 0), (invite(0, 0, number, 1), 0), (lift(0, 0, number, 0), -17)]
                self.check([found(0, 0)] * 4, steps)

    def test_founder_sees_all(self):
        for shown in (0, 1):
            with self.subTest(past=shown):
                steps = [(say(0, 0, 0, 1), -61), (say(0, 0, 0), 0), (say(0, 0, 0, 1), 1), (say(0, 0, 0, 2), 2)]
                self.check([found(0, shown)], steps)

    def test_shows_its_past_or_not(self):
        for shown, wanted in ((0, -61), (1, 1)):
            with self.subTest(past=shown):
                self.check([found(0, shown), say(0, 0, 0)] + bring([1]), [(say(1, 0, 0, 1), wanted)])


if __name__ == "__main__":
    unittest.main()
