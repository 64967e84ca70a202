"""Point 6: seen. How far one has read, unread tells."""

import unittest

from tests.lines import HUGE, LineCase, bring, find, found, leave, message, read, remove, rooms, say, seen, unread

# 1 is in room 0 of 0 and has read none of its five messages.
FIVE = [found(0, 1)] + bring([1]) + [say(0, 0, 0)] * 5


class Seen(LineCase):
    def test_all_up_to_it_and_none_behind(self):
        for m in range(5):
            with self.subTest(m=m):
                self.check(FIVE, [(unread(1, 0, 0), 5), (seen(1, 0, 0, m), 0), (unread(1, 0, 0), 4 - m)])

    def test_going_back(self):
        steps = []
        for m in (4, 0, 3, 2, 2, 4):
            steps += [(seen(1, 0, 0, m), 0), (unread(1, 0, 0), 4 - m)]
        self.check(FIVE, steps)

    def test_what_is_said_afterwards_is_not_read(self):
        self.check(FIVE, [(seen(1, 0, 0, 4), 0), (say(0, 0, 0), 5), (unread(1, 0, 0), 1), (seen(1, 0, 0, 5), 0),
                          (unread(1, 0, 0), 0)])

    def test_of_this_person_and_room_alone(self):
        before = [found(0, 1), found(0, 1)] + bring([1, 2]) + bring([1], 0, 1)
        before += [say(0, 0, 0)] * 3 + [say(0, 0, 1)] * 3
        self.check(before, [(seen(1, 0, 0, 1), 0), (unread(1, 0, 0), 1), (unread(2, 0, 0), 3), (unread(1, 0, 1), 3)])

    def test_one_that_is_gone(self):
        before = FIVE + [remove(0, 0, 0, 2)]
        self.check(before, [(unread(1, 0, 0), 4), (seen(1, 0, 0, 2), 0), (unread(1, 0, 0), 2), (seen(1, 0, 0, 1), 0),
                            (unread(1, 0, 0), 2), (seen(1, 0, 0, 0), 0), (unread(1, 0, 0), 3)])

    def test_ones_own(self):
        self.check(FIVE, [(say(1, 0, 0), 5), (seen(1, 0, 0, 5), 0), (unread(1, 0, 0), 0), (seen(0, 0, 0, 4), 0),
                          (unread(0, 0, 0), 1)])

    def test_no_message(self):
        steps = [(seen(1, 0, 0, m), -61) for m in (5, 6, 127, 128, 256, 2147483648, HUGE)]
        self.check(FIVE + [seen(1, 0, 0, 1)], steps + [(unread(1, 0, 0), 3)])
        self.check([found(0, 0)], [(seen(0, 0, 0, 0), -61)])

    def test_first_seen_and_the_one_before(self):
        before = [found(0, 0)] + [say(0, 0, 0)] * 3 + bring([1]) + [say(0, 0, 0)] * 2
        self.check(before, [(seen(1, 0, 0, 2), -61), (unread(1, 0, 0), 2), (seen(1, 0, 0, 3), 0),
                            (unread(1, 0, 0), 1), (seen(1, 0, 0, 0), -61), (unread(1, 0, 0), 1)])

    def test_leaving_and_joining_forgets_it(self):
        before = FIVE + [seen(1, 0, 0, 3), leave(1, 0, 0)] + bring([1])
        self.check(before, [(unread(1, 0, 0), 5)])

    def test_changes_nothing_else(self):
        self.check(FIVE + [seen(1, 0, 0, 4)], [(read(1, 0, 0, 4), message(0)), (rooms(1, 0), [1, 0, 0, 1, 5]),
                                               (find(1, b"a", 4), [1, 0, 0, 4]), (unread(0, 0, 0), 0)])

    def test_order_of_refusals(self):
        self.check(FIVE, [(seen(16, 0, 0, 0), -22), (seen(HUGE, HUGE, HUGE, HUGE), -22), (seen(2, 0, 0, 0), -2),
                          (seen(2, 0, 0, 9), -2), (seen(1, 0, 1, 9), -2), (seen(1, 0, 0, 9), -61)])


if __name__ == "__main__":
    unittest.main()
