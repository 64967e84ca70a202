"""Point 8: unread."""

import unittest

from tests.lines import (HUGE, LineCase, bring, change, found, invite, join, leave, mark, out, past, remove, say,
                         seen, unread)


class Unread(LineCase):
    def test_who_founded_it_has_read_none(self):
        before = [found(0, 0)] + bring([1])
        self.check(before, [(unread(0, 0, 0), 0), (say(1, 0, 0), 0), (unread(0, 0, 0), 1), (say(1, 0, 0), 1),
                            (unread(0, 0, 0), 2)])

    def test_not_ones_own(self):
        before = [found(0, 0)] + bring([1]) + [say(0, 0, 0), say(1, 0, 0), say(1, 0, 0), say(0, 0, 0), say(1, 0, 0)]
        self.check(before, [(unread(0, 0, 0), 3), (unread(1, 0, 0), 2)])

    def test_saying_reads_nothing(self):
        before = [found(0, 0)] + bring([1]) + [say(0, 0, 0)] * 2
        self.check(before, [(say(1, 0, 0, 1), 2), (unread(1, 0, 0), 2)])

    def test_not_gone_ones(self):
        before = [found(0, 0)] + bring([1]) + [say(0, 0, 0)] * 4
        self.check(before, [(remove(0, 0, 0, 3), 0), (unread(1, 0, 0), 3), (remove(0, 0, 0, 0), 0),
                            (unread(1, 0, 0), 2), (seen(1, 0, 0, 1), 0), (unread(1, 0, 0), 1),
                            (remove(0, 0, 0, 2), 0), (unread(1, 0, 0), 0)])

    def test_changed_and_marked_ones_stay_as_they_are(self):
        before = [found(0, 0)] + bring([1]) + [say(0, 0, 0), say(0, 0, 0), seen(1, 0, 0, 0)]
        self.check(before, [(change(0, 0, 0, 0), 0), (unread(1, 0, 0), 1), (mark(1, 0, 0, 1, 0), 1),
                            (change(0, 0, 0, 1), 0), (unread(1, 0, 0), 1)])

    def test_after_joining(self):
        for shown, wanted in ((0, 0), (1, 3)):
            with self.subTest(past=shown):
                before = [found(0, shown)] + [say(0, 0, 0)] * 3 + bring([1])
                self.check(before, [(unread(1, 0, 0), wanted), (say(0, 0, 0), 3), (unread(1, 0, 0), wanted + 1)])

    def test_after_leaving_and_joining_again(self):
        for shown, wanted in ((0, 1), (1, 4)):
            for goes in (leave(1, 0, 0), out(0, 0, 0, 1)):
                with self.subTest(past=shown, goes=goes):
                    before = [found(0, shown)] + bring([1]) + [say(0, 0, 0), say(1, 0, 0), say(0, 0, 0),
                                                               seen(1, 0, 0, 2), goes, say(0, 0, 0)]
                    steps = [(unread(1, 0, 0), -2), (invite(0, 0, 0, 1), 0), (unread(1, 0, 0), -2),
                             (join(1, 0, 0), 0), (say(0, 0, 0), 4), (unread(1, 0, 0), wanted)]
                    self.check(before, steps)

    def test_whether_it_shows_its_past_changes_nothing_later(self):
        before = [found(0, 0), say(0, 0, 0)] + bring([1]) + [past(0, 0, 0, 1)]
        self.check(before, [(unread(1, 0, 0), 0), (past(0, 0, 0, 0), 0), (say(0, 0, 0), 1), (unread(1, 0, 0), 1)])

    def test_said_by_who_left(self):
        before = [found(0, 0)] + bring([1]) + [say(1, 0, 0), leave(1, 0, 0)]
        self.check(before, [(unread(0, 0, 0), 1)])

    def test_of_each_room_by_itself(self):
        before = [found(0, 0), found(0, 0)] + bring([1]) + bring([1], 0, 1) + [say(1, 0, 0)] * 2 + [say(1, 0, 1)]
        self.check(before, [(unread(0, 0, 0), 2), (unread(0, 0, 1), 1)])

    def test_all_128(self):
        self.check([found(0, 0)] + bring([1]) + [say(0, 0, 0)] * 128, [(unread(1, 0, 0), 128), (unread(0, 0, 0), 0)])

    def test_order_of_refusals(self):
        self.check([found(0, 0)], [(unread(16, 0, 0), -22), (unread(HUGE, HUGE, HUGE), -22), (unread(1, 0, 0), -2),
                                   (unread(0, 0, 1), -2), (unread(0, 0, 0), 0)])


if __name__ == "__main__":
    unittest.main()
