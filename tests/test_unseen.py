"""Messages before those that one sees, for one who joined later, and the same where a room shows its past."""

import unittest

from tests.lines import (LineCase, bring, change, find, found, gone, invite, join, leave, mark, message, past, read,
                         remove, rooms, say, seen, unread)


def joined(shown):
    """0 said "tea" twice, then 1 joined and both said "tea" again."""
    return [found(0, shown)] + [say(0, 0, 0, 0, b"tea")] * 2 + bring([1]) + [say(0, 0, 0, 0, b"tea"),
                                                                             say(1, 0, 0, 0, b"tea")]


class Hidden(LineCase):
    def test_each_call(self):
        steps = []
        for m in (0, 1):
            steps += [(read(1, 0, 0, m), -61), (change(1, 0, 0, m), -61), (remove(1, 0, 0, m), -61),
                      (mark(1, 0, 0, m, 0), -61), (seen(1, 0, 0, m), -61), (say(1, 0, 0, m + 1), -61)]
        steps += [(unread(1, 0, 0), 1), (find(1, b"tea", 0), [1, 0, 0, 2]), (find(1, b"tea", 1), [1, 0, 0, 3]),
                  (find(1, b"tea", 2), 0)]
        steps += [(read(0, 0, 0, m), message(0, b"tea")) for m in (0, 1)] + [(unread(0, 0, 0), 1)]
        self.check(joined(0), steps)

    def test_ones_own_from_before(self):
        before = [found(0, 0)] + bring([1]) + [say(1, 0, 0, 0, b"mine"), mark(1, 0, 0, 0, 3), leave(1, 0, 0)]
        before += bring([1])
        steps = [(read(1, 0, 0, 0), -61), (change(1, 0, 0, 0), -61), (remove(1, 0, 0, 0), -61),
                 (mark(1, 0, 0, 0, 3), -61), (seen(1, 0, 0, 0), -61), (say(1, 0, 0, 1), -61), (find(1, b"mine"), 0),
                 (read(0, 0, 0, 0), message(1, b"mine", marks=[(3, 1)])), (rooms(1, 0), [1, 0, 0, 1, 1])]
        self.check(before, steps)

    def test_a_keepers_right_does_not_reach_them(self):
        before = [found(0, 0), say(0, 0, 0), invite(0, 0, 0, 1), leave(0, 0, 0), join(1, 0, 0)]
        self.check(before, [(rooms(1, 0), [1, 0, 0, 2, 1]), (remove(1, 0, 0, 0), -61), (read(1, 0, 0, 0), -61),
                            (past(1, 0, 0, 1), 0), (remove(1, 0, 0, 0), -61)])

    def test_gone_ones_are_hidden_too(self):
        before = [found(0, 0), say(0, 0, 0), remove(0, 0, 0, 0)] + bring([1])
        self.check(before, [(read(1, 0, 0, 0), -61), (seen(1, 0, 0, 0), -61), (read(0, 0, 0, 0), gone(0))])


class Shown(LineCase):
    def test_each_call(self):
        steps = [(unread(1, 0, 0), 3)]
        steps += [(find(1, b"tea", k), [1, 0, 0, k]) for k in range(4)]
        steps += [(read(1, 0, 0, 0), message(0, b"tea")), (mark(1, 0, 0, 0, 2), 1), (say(1, 0, 0, 1, b"re"), 4),
                  (read(1, 0, 0, 0), message(0, b"tea", marks=[(2, 1)])), (change(1, 0, 0, 0), -1),
                  (remove(1, 0, 0, 0), -1), (seen(1, 0, 0, 0), 0), (unread(1, 0, 0), 2)]
        self.check(joined(1), steps)

    def test_gone_ones_are_seen_as_gone(self):
        before = [found(0, 1), say(0, 0, 0), remove(0, 0, 0, 0)] + bring([1])
        self.check(before, [(read(1, 0, 0, 0), gone(0)), (seen(1, 0, 0, 0), 0), (unread(1, 0, 0), 0)])


class AtOneThatIsGone(LineCase):
    def test_seen_and_read_take_it_and_the_others_do_not(self):
        before = [found(0, 0)] + bring([1]) + [say(0, 0, 0), remove(0, 0, 0, 0)]
        for p in (0, 1):
            steps = [(say(p, 0, 0, 1), -61), (change(p, 0, 0, 0), -61), (remove(p, 0, 0, 0), -61),
                     (mark(p, 0, 0, 0, 0), -61), (seen(p, 0, 0, 0), 0), (read(p, 0, 0, 0), gone(0))]
            with self.subTest(p=p):
                self.check(before, steps)


if __name__ == "__main__":
    unittest.main()
