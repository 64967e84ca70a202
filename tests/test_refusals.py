"""What the document says ahead of point 1: -22 of p, -2, their order, and that a refused call changes nothing."""

import unittest

from tests.lines import ABOVE_PEOPLE, HUGE, LineCase, begin, bring, found, invite, join, leave, lift, out, past, say

# Each call of a room with whom it is about, or what it is handed, left as it would be taken.
OF_A_ROOM = {
    "invite": lambda p, founder, number: invite(p, founder, number, 9),
    "leave": leave,
    "out": lambda p, founder, number: out(p, founder, number, 1),
    "lift": lambda p, founder, number: lift(p, founder, number, 1),
    "past": lambda p, founder, number: past(p, founder, number, 1),
    "say": say,
}
# The same calls with something in them that is -22 by itself.
INVALID_OF_A_ROOM = {
    "invite": lambda p, founder, number: invite(p, founder, number, 16),
    "out": lambda p, founder, number: out(p, founder, number, 16),
    "lift": lambda p, founder, number: lift(p, founder, number, 16),
    "past": lambda p, founder, number: past(p, founder, number, 2),
    "say": lambda p, founder, number: say(p, founder, number, 0, []),
}


class Callers(LineCase):
    def test_p_above_15(self):
        for p in ABOVE_PEOPLE:
            for name, call in OF_A_ROOM.items():
                with self.subTest(p=p, call=name):
                    self.check([found(0, 0)] + bring([1]), [(call(p, 0, 0), -22)])
            with self.subTest(p=p):
                self.check([found(0, 0)], [(found(p, 0), -22), (join(p, 0, 0), -22)])

    def test_p_15_is_one_of_the_people(self):
        for name, call in OF_A_ROOM.items():
            with self.subTest(call=name):
                self.check([found(15, 0)] + bring([1], 15), [(call(15, 15, 0), 0)])
        self.check([found(0, 0), invite(0, 0, 0, 15)], [(join(15, 0, 0), 0), (found(15, 0), 0)])

    def test_p_above_15_goes_before_an_unknown_room(self):
        for name, call in OF_A_ROOM.items():
            with self.subTest(call=name):
                self.check([], [(call(16, 0, 0), -22), (call(HUGE, HUGE, HUGE), -22)])
        self.check([], [(join(16, 0, 0), -22), (join(HUGE, HUGE, HUGE), -22)])


class Rooms(LineCase):
    def test_no_such_room(self):
        places = ((0, 1), (0, 4), (0, HUGE), (1, 0), (15, 0), (16, 0), (17, 0), (HUGE, 0), (HUGE, HUGE))
        for founder, number in places:
            for name, call in OF_A_ROOM.items():
                with self.subTest(founder=founder, number=number, call=name):
                    self.check([found(0, 0)] + bring([1]), [(call(0, founder, number), -2)])
            self.check([found(0, 0)], [(join(0, founder, number), -2)])

    def test_p_is_not_in_it(self):
        for name, call in OF_A_ROOM.items():
            with self.subTest(call=name):
                self.check([found(0, 0)] + bring([1]), [(call(2, 0, 0), -2), (call(0, 0, 0), 0)])

    def test_invited_is_not_in_it(self):
        for name, call in OF_A_ROOM.items():
            with self.subTest(call=name):
                self.check([found(0, 0)] + bring([1]) + [invite(0, 0, 0, 2)], [(call(2, 0, 0), -2)])

    def test_who_left_or_was_put_out_is_not_in_it(self):
        for name, call in OF_A_ROOM.items():
            with self.subTest(call=name):
                before = [found(0, 0)] + bring([1, 2, 3]) + [leave(2, 0, 0), out(0, 0, 0, 3)]
                self.check(before, [(call(2, 0, 0), -2), (call(3, 0, 0), -2)])

    def test_founder_who_left_is_not_in_it(self):
        for name, call in OF_A_ROOM.items():
            with self.subTest(call=name):
                self.check([found(0, 0)] + bring([1]) + [leave(0, 0, 0)], [(call(0, 0, 0), -2)])

    def test_all_minus_22_go_before_minus_2(self):
        for name, call in INVALID_OF_A_ROOM.items():
            with self.subTest(call=name):
                before = [found(0, 0)] + bring([1])
                self.check(before, [(call(0, 0, 1), -22), (call(2, 0, 0), -22), (call(0, HUGE, HUGE), -22)])

    def test_minus_2_tells_a_room_from_no_room_to_nobody_outside(self):
        with_room = [found(0, 1)] + bring([1]) + [say(0, 0, 0)]
        for name, call in list(OF_A_ROOM.items()) + [("join", join)]:
            with self.subTest(call=name):
                self.check(with_room, [(call(2, 0, 0), -2), (call(2, 0, 1), -2)])

    def test_rooms_of_one_founder_are_apart(self):
        before = [found(0, 0), found(0, 1)] + bring([1], 0, 1)
        steps = [(say(1, 0, 0), -2), (say(1, 0, 1), 0), (say(0, 0, 0), 0), (say(0, 0, 1), 1),
                 (leave(0, 0, 0), 0), (say(0, 0, 1), 2), (say(0, 0, 0), -2)]
        self.check(before, steps)


def probes():
    """Calls whose answers tell of the state that they are put behind; they end it, so they come last."""
    calls = [say(p, founder, number) for p in range(6) for founder in range(3) for number in range(2)]
    calls += [past(p, 0, 0, 1) for p in range(6)]
    calls += [join(p, founder, number) for p in range(16) for founder in range(3) for number in range(2)]
    calls += [say(p, 0, 0, answered) for p in range(6) for answered in range(4)]
    calls += [invite(0, 0, 0, q) for q in range(16)]
    calls += [found(p, 0) for p in range(4) for times in range(4)]
    return calls


class RefusedChangesNothing(LineCase):
    # In room 0 of 0: 0 a keeper, 1 no keeper, 2 invited, 3 was put out; it hides its past and has two messages.
    BEFORE = [found(0, 0)] + bring([1, 3]) + [invite(0, 0, 0, 2), out(0, 0, 0, 3), say(0, 0, 0), say(1, 0, 0)]
    REFUSED = [
        (found(16, 0), -22), (found(0, 2), -22), (found(1, HUGE), -22),
        (invite(16, 0, 0, 4), -22), (invite(0, 0, 0, 16), -22), (invite(0, 0, 1, 4), -2), (invite(2, 0, 0, 4), -2),
        (invite(1, 0, 0, 4), -1), (invite(0, 0, 0, 1), -17), (invite(0, 0, 0, 2), -17), (invite(0, 0, 0, 0), -17),
        (join(16, 0, 0), -22), (join(1, 0, 0), -2), (join(3, 0, 0), -2), (join(2, 0, 1), -2),
        (leave(16, 0, 0), -22), (leave(2, 0, 0), -2), (leave(3, 0, 0), -2), (leave(0, 0, 1), -2),
        (out(0, 0, 0, 16), -22), (out(2, 0, 0, 1), -2), (out(1, 0, 0, 0), -1), (out(1, 0, 0, 2), -1),
        (out(1, 0, 0, 1), -1), (out(0, 0, 0, 0), -61), (out(0, 0, 0, 3), -61),
        (lift(0, 0, 0, 16), -22), (lift(2, 0, 0, 1), -2), (lift(1, 0, 0, 1), -1), (lift(0, 0, 0, 2), -61),
        (lift(0, 0, 0, 3), -61), (lift(0, 0, 0, 0), -17),
        (past(0, 0, 0, 2), -22), (past(2, 0, 0, 1), -2), (past(1, 0, 0, 1), -1),
        (say(0, 0, 0, 0, []), -22), (say(0, 0, 0, 0, [65] * 257), -22), (say(0, 0, 0, 0, [65, 127]), -22),
        (say(2, 0, 0), -2), (say(3, 0, 0), -2), (say(0, 0, 0, 3), -61), (say(0, 0, 0, HUGE), -61),
    ]

    def test_each_by_itself(self):
        wanted = self.ask(self.BEFORE + probes())[len(self.BEFORE):]
        for call, refusal in self.REFUSED:
            with self.subTest(call=call):
                told = self.ask(self.BEFORE + [call] + probes())[len(self.BEFORE):]
                self.same(told, [refusal] + wanted)

    def test_all_behind_one_another(self):
        wanted = self.ask(self.BEFORE + probes())[len(self.BEFORE):]
        told = self.ask(self.BEFORE + [call for call, refusal in self.REFUSED] + probes())[len(self.BEFORE):]
        self.same(told, [refusal for call, refusal in self.REFUSED] + wanted)

    def test_where_there_is_no_place_left(self):
        before = [found(0, 0)] * 4 + bring(range(1, 12)) + [say(0, 0, 0)] * 128
        wanted = self.ask(before + probes())[len(before):]
        for call in (found(0, 1), invite(0, 0, 0, 12), say(1, 0, 0)):
            with self.subTest(call=call):
                self.same(self.ask(before + [call] + probes())[len(before):], [-28] + wanted)


class Begin(LineCase):
    def test_begin_refuses_nobody_and_may_come_at_any_time(self):
        self.check([], [(begin(), 0), (begin(), 0), (found(0, 0), 0), (begin(), 0)])


if __name__ == "__main__":
    unittest.main()
