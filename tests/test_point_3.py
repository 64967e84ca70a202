"""Point 3: leave, out, lift, past."""

import unittest

from tests.lines import ABOVE_PEOPLE, HUGE, LineCase, bring, found, invite, join, leave, lift, out, past, say


class Leave(LineCase):
    def test_is_not_in_it_any_more(self):
        self.check([found(0, 0)] + bring([1]), [(leave(1, 0, 0), 0), (say(1, 0, 0), -2), (leave(1, 0, 0), -2),
                                                (join(1, 0, 0), -2), (say(0, 0, 0), 0)])

    def test_of_this_room_alone(self):
        before = [found(0, 0), found(0, 0)] + bring([1], 0, 0) + bring([1], 0, 1)
        self.check(before, [(leave(1, 0, 1), 0), (say(1, 0, 1), -2), (say(1, 0, 0), 0)])

    def test_last_keeper_hands_on_to_the_first(self):
        before = [found(0, 0)] + bring([3, 1, 2]) + [leave(0, 0, 0)]
        self.check(before, [(past(1, 0, 0, 1), -1), (past(2, 0, 0, 1), -1), (past(3, 0, 0, 1), 0)])

    def test_another_keeper_stays_the_only_one(self):
        before = [found(0, 0)] + bring([1, 2]) + [lift(0, 0, 0, 2), leave(0, 0, 0)]
        self.check(before, [(past(1, 0, 0, 1), -1), (past(2, 0, 0, 1), 0), (lift(2, 0, 0, 1), 0)])

    def test_one_who_is_no_keeper_changes_no_keeper(self):
        before = [found(0, 0)] + bring([1, 2]) + [leave(1, 0, 0)]
        self.check(before, [(past(2, 0, 0, 1), -1), (past(0, 0, 0, 1), 0)])

    def test_invited_are_no_keepers(self):
        before = [found(0, 0), invite(0, 0, 0, 1)] + bring([2]) + [leave(0, 0, 0), join(1, 0, 0)]
        self.check(before, [(past(1, 0, 0, 1), -1), (past(2, 0, 0, 1), 0)])

    def test_invitations_stay(self):
        before = [found(0, 0), invite(0, 0, 0, 1), leave(0, 0, 0)]
        self.check(before, [(join(2, 0, 0), -2), (join(1, 0, 0), 0)])

    def test_keeper_after_keeper(self):
        before = [found(0, 0)] + bring(range(1, 12))
        steps = []
        for p in range(12):
            steps += [(past(q, 0, 0, 1), 0 if q == p else -1) for q in range(p, 12)] + [(leave(p, 0, 0), 0)]
        self.check(before, steps)


class Out(LineCase):
    def test_one_in_it(self):
        self.check([found(0, 0)] + bring([1]), [(out(0, 0, 0, 1), 0), (say(1, 0, 0), -2), (join(1, 0, 0), -2),
                                                (out(0, 0, 0, 1), -61), (say(0, 0, 0), 0)])

    def test_one_invited(self):
        self.check([found(0, 0), invite(0, 0, 0, 1)], [(out(0, 0, 0, 1), 0), (join(1, 0, 0), -2),
                                                       (out(0, 0, 0, 1), -61)])

    def test_nobody_else(self):
        before = [found(0, 0)] + bring([1, 2]) + [invite(0, 0, 0, 3), invite(0, 0, 0, 4)]
        steps = [(out(0, 0, 0, 1), 0), (out(0, 0, 0, 3), 0), (say(2, 0, 0), 0), (join(4, 0, 0), 0), (say(0, 0, 0), 1)]
        self.check(before, steps)

    def test_a_keeper(self):
        before = [found(0, 0)] + bring([1]) + [lift(0, 0, 0, 1)]
        self.check(before, [(out(1, 0, 0, 0), 0), (say(0, 0, 0), -2), (past(1, 0, 0, 1), 0)])

    def test_by_no_keeper(self):
        before = [found(0, 0)] + bring([1, 2])
        self.check(before, [(out(1, 0, 0, 2), -1), (say(2, 0, 0), 0)])

    def test_oneself(self):
        before = [found(0, 0)] + bring([1]) + [lift(0, 0, 0, 1)]
        self.check(before, [(out(0, 0, 0, 0), -61), (out(1, 0, 0, 1), -61), (say(0, 0, 0), 0), (say(1, 0, 0), 1)])

    def test_neither_in_it_nor_invited(self):
        before = [found(0, 0), found(1, 0)] + bring([2], 1)
        self.check(before, [(out(0, 0, 0, q), -61) for q in (1, 2, 15)] + [(say(2, 1, 0), 0)])

    def test_q_at_the_edges(self):
        self.check([found(0, 0)] + bring([15]), [(out(0, 0, 0, 15), 0)])
        for q in ABOVE_PEOPLE:
            with self.subTest(q=q):
                self.check([found(0, 0)], [(out(0, 0, 0, q), -22)])

    def test_order_of_refusals(self):
        before = [found(0, 0)] + bring([1])
        steps = [(out(1, 0, 0, 16), -22), (out(2, 0, 0, 16), -22), (out(2, 0, 0, 2), -2), (out(2, 0, 0, 3), -2),
                 (out(1, 0, 0, 1), -1), (out(1, 0, 0, 3), -1), (out(0, 0, 0, 3), -61)]
        self.check(before, steps)


class Lift(LineCase):
    def test_is_a_keeper_then(self):
        before = [found(0, 0)] + bring([1, 2])
        steps = [(past(1, 0, 0, 1), -1), (lift(0, 0, 0, 1), 0), (past(1, 0, 0, 1), 0), (past(0, 0, 0, 1), 0),
                 (past(2, 0, 0, 1), -1), (lift(1, 0, 0, 2), 0), (past(2, 0, 0, 1), 0)]
        self.check(before, steps)

    def test_of_this_room_alone(self):
        before = [found(0, 0), found(0, 0)] + bring([1], 0, 0) + bring([1], 0, 1)
        self.check(before, [(lift(0, 0, 0, 1), 0), (past(1, 0, 1, 1), -1), (past(1, 0, 0, 1), 0)])

    def test_by_no_keeper(self):
        self.check([found(0, 0)] + bring([1, 2]), [(lift(1, 0, 0, 2), -1), (lift(1, 0, 0, 1), -1)])

    def test_not_in_it(self):
        before = [found(0, 0)] + bring([2]) + [invite(0, 0, 0, 1), leave(2, 0, 0)]
        self.check(before, [(lift(0, 0, 0, q), -61) for q in (1, 2, 3, 15)] + [(join(1, 0, 0), 0),
                                                                             (past(1, 0, 0, 1), -1)])

    def test_a_keeper_already(self):
        before = [found(0, 0)] + bring([1]) + [lift(0, 0, 0, 1)]
        self.check(before, [(lift(p, 0, 0, q), -17) for p in (0, 1) for q in (0, 1)])

    def test_q_at_the_edges(self):
        self.check([found(0, 0)] + bring([15]), [(lift(0, 0, 0, 15), 0)])
        for q in ABOVE_PEOPLE:
            with self.subTest(q=q):
                self.check([found(0, 0)], [(lift(0, 0, 0, q), -22)])

    def test_order_of_refusals(self):
        before = [found(0, 0)] + bring([1])
        steps = [(lift(1, 0, 0, 16), -22), (lift(2, 0, 0, 16), -22), (lift(2, 0, 0, 0), -2), (lift(2, 0, 0, 3), -2),
                 (lift(1, 0, 0, 3), -1), (lift(1, 0, 0, 0), -1), (lift(0, 0, 0, 3), -61), (lift(0, 0, 0, 0), -17)]
        self.check(before, steps)


class Past(LineCase):
    def test_shown_and_hidden_again(self):
        before = [found(0, 0), say(0, 0, 0)]
        steps = []
        for q, shown in ((1, 1), (2, 0), (3, 1), (4, 1), (5, 0), (6, 0)):
            steps += [(past(0, 0, 0, shown), 0), (invite(0, 0, 0, q), 0), (join(q, 0, 0), 0)]
        for k, q in enumerate((1, 3, 4)):
            steps.append((say(q, 0, 0, 1), k + 1))
        steps += [(say(q, 0, 0, 1), -61) for q in (2, 5, 6)]
        self.check(before, steps)

    def test_who_is_in_it_already_sees_what_they_saw(self):
        before = [found(0, 0), say(0, 0, 0)] + bring([1]) + [past(0, 0, 0, 1)]
        self.check(before, [(say(1, 0, 0, 1), -61)])
        before = [found(0, 1), say(0, 0, 0)] + bring([1]) + [past(0, 0, 0, 0)]
        self.check(before, [(say(1, 0, 0, 1), 1), (say(0, 0, 0, 1), 2)])

    def test_of_this_room_alone(self):
        before = [found(0, 0), found(0, 0), say(0, 0, 0), say(0, 0, 1), past(0, 0, 0, 1)]
        self.check(before + bring([1], 0, 0) + bring([1], 0, 1), [(say(1, 0, 0, 1), 1), (say(1, 0, 1, 1), -61)])

    def test_by_no_keeper(self):
        before = [found(0, 0), say(0, 0, 0)] + bring([1])
        self.check(before, [(past(1, 0, 0, 1), -1), (past(1, 0, 0, 0), -1), (invite(0, 0, 0, 2), 0),
                            (join(2, 0, 0), 0), (say(2, 0, 0, 1), -61)])

    def test_past_at_the_edges(self):
        for shown, wanted in ((0, 0), (1, 0), (2, -22), (3, -22), (256, -22), (HUGE, -22)):
            with self.subTest(past=shown):
                self.check([found(0, 0)], [(past(0, 0, 0, shown), wanted)])

    def test_order_of_refusals(self):
        before = [found(0, 0)] + bring([1])
        self.check(before, [(past(1, 0, 0, 2), -22), (past(2, 0, 0, 2), -22), (past(2, 0, 0, 1), -2),
                            (past(1, 0, 0, 1), -1)])


if __name__ == "__main__":
    unittest.main()
