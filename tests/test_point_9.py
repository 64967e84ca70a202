"""Point 9: rooms, people."""

import unittest

from tests.lines import (HUGE, LineCase, begin, bring, found, invite, join, leave, lift, out, people, remove, rooms,
                         say)

BEHIND = (2147483648, HUGE)


def listed(p, rows):
    """Steps by which rooms tells p just these."""
    steps = [(rooms(p, k), [1] + row) for k, row in enumerate(rows)]
    return steps + [(rooms(p, k), 0) for k in (len(rows), len(rows) + 1) + BEHIND]


def inside(p, founder, number, rows):
    """Steps by which people tells p just these."""
    steps = [(people(p, founder, number, k), [1] + row) for k, row in enumerate(rows)]
    return steps + [(people(p, founder, number, k), 0) for k in (len(rows), len(rows) + 1) + BEHIND]


class Rooms(LineCase):
    def test_none(self):
        self.check([found(0, 0)], listed(1, []) + listed(15, []))

    def test_by_founders_then_numbers(self):
        before = [found(9, 0), found(2, 0), found(0, 0), found(2, 0), found(15, 0)]
        before += bring([2], 15) + bring([2], 0) + bring([2], 9)
        rows = [[0, 0, 1, 0], [2, 0, 2, 0], [2, 1, 2, 0], [9, 0, 1, 0], [15, 0, 1, 0]]
        self.check(before, listed(2, rows) + listed(0, [[0, 0, 2, 0]]))

    def test_invited_in_it_a_keeper_and_none_of_these(self):
        before = [found(0, 0)] * 4 + [invite(0, 0, 0, 1)] + bring([1], 0, 1) + bring([1], 0, 2) + [lift(0, 0, 2, 1)]
        before += [say(0, 0, number) for number in range(4)] * 3
        self.check(before, listed(1, [[0, 0, 0, 0], [0, 1, 1, 3], [0, 2, 2, 3]])
                   + listed(0, [[0, number, 2, 3] for number in range(4)]) + listed(2, []))

    def test_how_many_messages_counts_unseen_and_gone_ones(self):
        before = [found(0, 0)] + [say(0, 0, 0)] * 3 + bring([1]) + [say(0, 0, 0), remove(0, 0, 0, 3)]
        self.check(before, listed(1, [[0, 0, 1, 4]]) + listed(0, [[0, 0, 2, 4]]))

    def test_one_room_at_a_time_as_it_goes(self):
        steps = listed(1, []) + [(invite(0, 0, 0, 1), 0)] + listed(1, [[0, 0, 0, 0]])
        steps += [(join(1, 0, 0), 0)] + listed(1, [[0, 0, 1, 1]]) + [(lift(0, 0, 0, 1), 0)]
        steps += listed(1, [[0, 0, 2, 1]]) + [(leave(1, 0, 0), 0)] + listed(1, [])
        steps += [(invite(0, 0, 0, 1), 0), (out(0, 0, 0, 1), 0)] + listed(1, [])
        steps += [(invite(0, 0, 0, 1), 0), (join(1, 0, 0), 0), (out(0, 0, 0, 1), 0)] + listed(1, [])
        self.check([found(0, 1), say(0, 0, 0)], steps)

    def test_a_keeper_as_others_leave(self):
        before = [found(0, 0)] + bring([1]) + [leave(0, 0, 0)]
        self.check(before, listed(1, [[0, 0, 2, 0]]) + listed(0, []))

    def test_invited_to_a_room_that_nobody_is_in(self):
        before = [found(0, 0), say(0, 0, 0), invite(0, 0, 0, 1), leave(0, 0, 0)]
        self.check(before, listed(1, [[0, 0, 0, 0]]) + listed(0, []) + [(join(1, 0, 0), 0)]
                   + listed(1, [[0, 0, 2, 1]]))

    def test_all_64(self):
        before = [found(p, 0) for p in range(16) for number in range(4)]
        before += [invite(p, p, number, 7) for p in range(16) for number in range(4) if p != 7]
        rows = [[p, number, 2 if p == 7 else 0, 0] for p in range(16) for number in range(4)]
        self.check(before, listed(7, rows))

    def test_nothing_behind_begin(self):
        self.check([found(0, 0), begin()], listed(0, []) + [(found(0, 0), 0)] + listed(0, [[0, 0, 2, 0]]))

    def test_p_above_15(self):
        self.check([found(0, 0)], [(rooms(16, 0), -22), (rooms(16, 9), -22), (rooms(HUGE, HUGE), -22)])


class People(LineCase):
    def test_in_the_order_in_which_they_joined(self):
        before = [found(5, 0)] + bring([9, 0, 15, 3], 5) + [lift(5, 5, 0, 15), invite(5, 5, 0, 1)]
        rows = [[5, 1], [9, 0], [0, 0], [15, 1], [3, 0]]
        self.check(before, [step for p in (5, 9, 0, 15, 3) for step in inside(p, 5, 0, rows)])

    def test_one_alone(self):
        self.check([found(0, 0)], inside(0, 0, 0, [[0, 1]]))

    def test_twelve(self):
        before = [found(0, 0)] + bring(range(11, 0, -1))
        self.check(before, inside(4, 0, 0, [[0, 1]] + [[q, 0] for q in range(11, 0, -1)]))

    def test_joining_again_is_last(self):
        before = [found(0, 0)] + bring([1, 2]) + [lift(0, 0, 0, 1), leave(1, 0, 0)] + bring([1])
        self.check(before, inside(1, 0, 0, [[0, 1], [2, 0], [1, 0]]))

    def test_who_is_put_out_is_not_in_it(self):
        before = [found(0, 0)] + bring([1, 2]) + [out(0, 0, 0, 1)]
        self.check(before, inside(2, 0, 0, [[0, 1], [2, 0]]) + [(people(1, 0, 0, 0), -2)])

    def test_the_first_is_a_keeper_when_the_last_keeper_leaves(self):
        before = [found(0, 0)] + bring([3, 1]) + [leave(0, 0, 0)]
        self.check(before, inside(1, 0, 0, [[3, 1], [1, 0]]))

    def test_of_this_room_alone(self):
        before = [found(0, 0), found(0, 0)] + bring([1]) + bring([2], 0, 1)
        self.check(before, inside(0, 0, 0, [[0, 1], [1, 0]]) + inside(0, 0, 1, [[0, 1], [2, 0]]))

    def test_order_of_refusals(self):
        before = [found(0, 0), invite(0, 0, 0, 1)]
        steps = [(people(16, 0, 0, 0), -22), (people(HUGE, HUGE, HUGE, HUGE), -22), (people(1, 0, 0, 0), -2),
                 (people(2, 0, 0, 0), -2), (people(2, 0, 0, 9), -2), (people(0, 0, 1, 0), -2), (people(0, 0, 0, 1), 0)]
        self.check(before, steps)


if __name__ == "__main__":
    unittest.main()
