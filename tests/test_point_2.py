"""Point 2: invite, join."""

import unittest

from tests.lines import (ABOVE_PEOPLE, HUGE, LineCase, begin, bring, found, invite, join, leave, lift, out, past,
                         say)


class Invite(LineCase):
    def test_invited_may_join_once(self):
        steps = [(join(1, 0, 0), -2), (invite(0, 0, 0, 1), 0), (join(1, 0, 0), 0), (join(1, 0, 0), -2),
                 (say(1, 0, 0), 0)]
        self.check([found(0, 0)], steps)

    def test_q_at_the_edges(self):
        self.check([found(0, 0)], [(invite(0, 0, 0, 15), 0)])
        for q in ABOVE_PEOPLE:
            with self.subTest(q=q):
                self.check([found(0, 0)], [(invite(0, 0, 0, q), -22)])

    def test_to_this_room_alone(self):
        before = [found(0, 0), found(0, 0), found(1, 0), invite(0, 0, 1, 2)]
        self.check(before, [(join(2, 0, 0), -2), (join(2, 1, 0), -2), (join(2, 0, 1), 0)])

    def test_by_no_keeper(self):
        self.check([found(0, 0)] + bring([1]), [(invite(1, 0, 0, 2), -1), (join(2, 0, 0), -2)])

    def test_by_one_who_was_lifted(self):
        self.check([found(0, 0)] + bring([1]) + [lift(0, 0, 0, 1)], [(invite(1, 0, 0, 2), 0), (join(2, 0, 0), 0)])

    def test_in_it_or_invited(self):
        before = [found(0, 0)] + bring([1]) + [invite(0, 0, 0, 2)]
        self.check(before, [(invite(0, 0, 0, q), -17) for q in (0, 1, 2)] + [(invite(0, 0, 0, 3), 0)])

    def test_again_after_leaving_or_being_put_out(self):
        before = [found(0, 0)] + bring([1, 2]) + [invite(0, 0, 0, 3), leave(1, 0, 0), out(0, 0, 0, 2),
                                                   out(0, 0, 0, 3)]
        steps = []
        for q in (1, 2, 3):
            steps += [(join(q, 0, 0), -2), (invite(0, 0, 0, q), 0), (invite(0, 0, 0, q), -17), (join(q, 0, 0), 0)]
        self.check(before, steps)

    def test_order_of_refusals(self):
        full = [found(0, 0)] + bring(range(1, 6)) + [invite(0, 0, 0, q) for q in range(6, 12)]
        steps = [(invite(1, 0, 0, 16), -22), (invite(12, 0, 0, 0), -2), (invite(12, 0, 0, 13), -2),
                 (invite(1, 0, 0, 2), -1), (invite(1, 0, 0, 6), -1), (invite(1, 0, 0, 1), -1),
                 (invite(1, 0, 0, 12), -1), (invite(0, 0, 0, 1), -17), (invite(0, 0, 0, 11), -17),
                 (invite(0, 0, 0, 0), -17), (invite(0, 0, 0, 12), -28)]
        self.check(full, steps)


class Twelve(LineCase):
    def test_all_invited(self):
        steps = [(invite(0, 0, 0, q), 0) for q in range(1, 12)] + [(invite(0, 0, 0, q), -28) for q in range(12, 16)]
        self.check([found(0, 0)], steps)

    def test_all_in_it(self):
        self.check([found(0, 0)] + bring(range(1, 12)), [(invite(0, 0, 0, q), -28) for q in range(12, 16)])

    def test_eleven_leave_room_for_one(self):
        before = [found(0, 0)] + bring(range(1, 6)) + [invite(0, 0, 0, q) for q in range(6, 11)]
        self.check(before, [(invite(0, 0, 0, 15), 0), (invite(0, 0, 0, 14), -28)])

    def test_joining_makes_no_place(self):
        before = [found(0, 0)] + [invite(0, 0, 0, q) for q in range(1, 12)]
        steps = [(join(q, 0, 0), 0) for q in range(1, 12)] + [(invite(0, 0, 0, 12), -28)]
        self.check(before, steps)

    def test_leaving_and_putting_out_make_places(self):
        before = [found(0, 0)] + bring(range(1, 6)) + [invite(0, 0, 0, q) for q in range(6, 12)]
        for call in (leave(3, 0, 0), out(0, 0, 0, 3), out(0, 0, 0, 8)):
            with self.subTest(call=call):
                self.check(before, [(call, 0), (invite(0, 0, 0, 12), 0), (invite(0, 0, 0, 13), -28)])

    def test_of_each_room_by_itself(self):
        before = [found(0, 0), found(0, 0), found(1, 0)] + bring(range(1, 12))
        self.check(before, [(invite(0, 0, 0, 12), -28), (invite(0, 0, 1, 12), 0), (invite(1, 1, 0, 12), 0)])


class Join(LineCase):
    def test_not_invited(self):
        self.check([found(0, 1)], [(join(1, 0, 0), -2), (join(0, 0, 0), -2), (join(15, 0, 0), -2)])

    def test_no_such_room(self):
        before = [found(0, 1), invite(0, 0, 0, 1)]
        places = ((0, 1), (1, 0), (15, 3), (16, 0), (0, HUGE), (HUGE, 0), (HUGE, HUGE))
        self.check(before, [(join(1, founder, number), -2) for founder, number in places] + [(join(1, 0, 0), 0)])

    def test_is_no_keeper_where_others_are(self):
        self.check([found(0, 0)] + bring([1]), [(past(1, 0, 0, 1), -1), (lift(0, 0, 0, 1), 0)])

    def test_is_last(self):
        # Whoever stands first becomes the keeper when the last keeper leaves.
        before = [found(0, 0)] + bring([5, 2, 9]) + [leave(0, 0, 0)]
        steps = [(past(9, 0, 0, 0), -1), (past(2, 0, 0, 0), -1), (past(5, 0, 0, 0), 0), (leave(5, 0, 0), 0),
                 (past(9, 0, 0, 0), -1), (past(2, 0, 0, 0), 0), (leave(2, 0, 0), 0), (past(9, 0, 0, 0), 0)]
        self.check(before, steps)

    def test_order_is_that_of_joining_not_of_inviting(self):
        before = [found(0, 0), invite(0, 0, 0, 1), invite(0, 0, 0, 2), join(2, 0, 0), join(1, 0, 0), leave(0, 0, 0)]
        self.check(before, [(past(1, 0, 0, 0), -1), (past(2, 0, 0, 0), 0)])

    def test_again_is_last_again(self):
        for gone in (leave(1, 0, 0), out(0, 0, 0, 1)):
            with self.subTest(gone=gone):
                before = [found(0, 0)] + bring([1, 2]) + [gone] + bring([1]) + [leave(0, 0, 0)]
                self.check(before, [(past(1, 0, 0, 0), -1), (past(2, 0, 0, 0), 0)])

    def test_again_is_a_keeper_no_more(self):
        for gone in (leave(1, 0, 0), out(0, 0, 0, 1)):
            with self.subTest(gone=gone):
                before = [found(0, 0)] + bring([1]) + [lift(0, 0, 0, 1), past(1, 0, 0, 0), gone] + bring([1])
                self.check(before, [(past(1, 0, 0, 0), -1), (past(0, 0, 0, 0), 0)])


class JoinAndPast(LineCase):
    def test_a_room_that_shows_its_past(self):
        before = [found(0, 1)] + [say(0, 0, 0)] * 3 + bring([1])
        steps = [(say(1, 0, 0, 1), 3), (say(1, 0, 0, 2), 4), (say(1, 0, 0, 3), 5), (say(1, 0, 0, 7), -61)]
        self.check(before, steps)

    def test_a_room_that_does_not(self):
        before = [found(0, 0)] + [say(0, 0, 0)] * 3 + bring([1])
        steps = [(say(1, 0, 0, k), -61) for k in (1, 2, 3, 4)]
        steps += [(say(0, 0, 0, 1), 3), (say(1, 0, 0, 3), -61), (say(1, 0, 0, 4), 4), (say(1, 0, 0, 5), 5)]
        self.check(before, steps)

    def test_it_is_asked_when_joining_not_when_invited(self):
        before = [found(0, 0), say(0, 0, 0), invite(0, 0, 0, 1), past(0, 0, 0, 1), join(1, 0, 0)]
        self.check(before, [(say(1, 0, 0, 1), 1)])
        before = [found(0, 1), say(0, 0, 0), invite(0, 0, 0, 1), past(0, 0, 0, 0), join(1, 0, 0)]
        self.check(before, [(say(1, 0, 0, 1), -61)])

    def test_messages_between_inviting_and_joining_are_past(self):
        before = [found(0, 0), invite(0, 0, 0, 1), say(0, 0, 0), join(1, 0, 0)]
        self.check(before, [(say(1, 0, 0, 1), -61)])

    def test_again_sees_what_this_joining_lets_see(self):
        for gone in (leave(1, 0, 0), out(0, 0, 0, 1)):
            with self.subTest(gone=gone):
                before = [found(0, 0)] + bring([1]) + [say(1, 0, 0), say(0, 0, 0, 1), gone, say(0, 0, 0)] + bring([1])
                steps = [(say(1, 0, 0, 1), -61), (say(1, 0, 0, 2), -61), (say(1, 0, 0, 3), -61), (say(1, 0, 0), 3),
                         (say(1, 0, 0, 4), 4), (gone, 0), (past(0, 0, 0, 1), 0), (invite(0, 0, 0, 1), 0),
                         (join(1, 0, 0), 0), (say(1, 0, 0, 1), 5)]
                self.check(before, steps)

    def test_founder_who_joins_again_sees_no_more_than_others(self):
        before = [found(0, 0)] + bring([1]) + [say(0, 0, 0), leave(0, 0, 0), invite(1, 0, 0, 0), join(0, 0, 0)]
        self.check(before, [(say(0, 0, 0, 1), -61), (past(0, 0, 0, 1), -1), (say(0, 0, 0), 1), (say(0, 0, 0, 2), 2)])


class JoinTheEmpty(LineCase):
    def test_one_who_was_invited_is_its_keeper(self):
        before = [found(0, 0), invite(0, 0, 0, 1), invite(0, 0, 0, 2), leave(0, 0, 0)]
        steps = [(say(1, 0, 0), -2), (join(0, 0, 0), -2), (join(2, 0, 0), 0), (past(2, 0, 0, 1), 0),
                 (join(1, 0, 0), 0), (past(1, 0, 0, 1), -1), (invite(2, 0, 0, 0), 0), (join(0, 0, 0), 0),
                 (past(0, 0, 0, 1), -1)]
        self.check(before, steps)

    def test_its_past_and_messages_are_as_they_were(self):
        for shown, wanted in ((0, -61), (1, 2)):
            with self.subTest(past=shown):
                before = [found(0, shown), say(0, 0, 0), say(0, 0, 0), invite(0, 0, 0, 1), leave(0, 0, 0),
                          join(1, 0, 0)]
                self.check(before, [(say(1, 0, 0, 1), wanted)])

    def test_nobody_invited_nobody_comes(self):
        before = [found(0, 1)] + bring([1]) + [leave(0, 0, 0), leave(1, 0, 0)]
        self.check(before, [(join(q, 0, 0), -2) for q in range(16)] + [(found(0, 1), 1)])

    def test_begin_empties_the_invitations(self):
        self.check([found(0, 0), invite(0, 0, 0, 1), begin(), found(0, 0)], [(join(1, 0, 0), -2)])


if __name__ == "__main__":
    unittest.main()
