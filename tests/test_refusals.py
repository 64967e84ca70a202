"""What the document says ahead of point 1: -22 of p, -2, their order, and that a refused call changes nothing."""

import unittest

from tests.lines import (ABOVE_PEOPLE, HUGE, LineCase, begin, bring, change, find, found, invite, join, leave, lift,
                         mark, message, out, past, people, read, remove, rooms, say, seen, unread)

# Each call of a room with whom it is about, or what it is handed, left as it would be taken behind room_of.
OF_A_ROOM = {
    "invite": lambda p, founder, number: invite(p, founder, number, 9),
    "leave": leave,
    "out": lambda p, founder, number: out(p, founder, number, 1),
    "lift": lambda p, founder, number: lift(p, founder, number, 1),
    "past": lambda p, founder, number: past(p, founder, number, 1),
    "say": say,
    "change": lambda p, founder, number: change(p, founder, number, 0),
    "remove": lambda p, founder, number: remove(p, founder, number, 0),
    "mark": lambda p, founder, number: mark(p, founder, number, 0, 0),
    "seen": lambda p, founder, number: seen(p, founder, number, 0),
    "read": lambda p, founder, number: read(p, founder, number, 0),
    "unread": unread,
    "people": lambda p, founder, number: people(p, founder, number, 0),
}
# The same calls with something in them that is -22 by itself.
INVALID_OF_A_ROOM = {
    "invite": lambda p, founder, number: invite(p, founder, number, 16),
    "out": lambda p, founder, number: out(p, founder, number, 16),
    "lift": lambda p, founder, number: lift(p, founder, number, 16),
    "past": lambda p, founder, number: past(p, founder, number, 2),
    "say": lambda p, founder, number: say(p, founder, number, 0, []),
    "change": lambda p, founder, number: change(p, founder, number, 0, []),
    "mark": lambda p, founder, number: mark(p, founder, number, 0, 16),
}


def room_of(founder):
    """Calls behind which 1 and the founder are in room 0, and the founder has said something."""
    return [found(founder, 0)] + bring([1], founder) + [say(founder, founder, 0)]


def taken(name, founder):
    """What the call of that name answers the founder behind room_of."""
    told = {"say": 1, "mark": 1, "read": message(founder), "people": [1, founder, 1]}
    return told.get(name, 0)


class Callers(LineCase):
    def test_p_above_15(self):
        for p in ABOVE_PEOPLE:
            for name, call in OF_A_ROOM.items():
                with self.subTest(p=p, call=name):
                    self.check(room_of(0), [(call(p, 0, 0), -22)])
            with self.subTest(p=p):
                self.check([found(0, 0)], [(found(p, 0), -22), (join(p, 0, 0), -22), (rooms(p, 0), -22),
                                           (find(p, b"a"), -22)])

    def test_p_15_is_one_of_the_people(self):
        for name, call in OF_A_ROOM.items():
            with self.subTest(call=name):
                self.check(room_of(15), [(call(15, 15, 0), taken(name, 15))])
        self.check([found(0, 0), invite(0, 0, 0, 15)], [(join(15, 0, 0), 0), (found(15, 0), 0),
                                                        (rooms(15, 1), [1, 15, 0, 2, 0]), (find(15, b"a"), 0)])

    def test_p_above_15_goes_before_an_unknown_room(self):
        for name, call in OF_A_ROOM.items():
            with self.subTest(call=name):
                self.check([], [(call(16, 0, 0), -22), (call(HUGE, HUGE, HUGE), -22)])
        self.check([], [(join(16, 0, 0), -22), (join(HUGE, HUGE, HUGE), -22)])


class Rooms(LineCase):
    def test_no_such_room(self):
        places = ((0, 1), (0, 4), (0, HUGE), (1, 0), (15, 0), (16, 0), (17, 0), (HUGE, 0), (HUGE, HUGE))
        for founder, number in places:
            for name, call in OF_A_ROOM.items():
                with self.subTest(founder=founder, number=number, call=name):
                    self.check(room_of(0), [(call(0, founder, number), -2)])
            self.check([found(0, 0)], [(join(0, founder, number), -2)])

    def test_p_is_not_in_it(self):
        for name, call in OF_A_ROOM.items():
            with self.subTest(call=name):
                self.check(room_of(0), [(call(2, 0, 0), -2), (call(0, 0, 0), taken(name, 0))])

    def test_invited_is_not_in_it(self):
        for name, call in OF_A_ROOM.items():
            with self.subTest(call=name):
                self.check(room_of(0) + [invite(0, 0, 0, 2)], [(call(2, 0, 0), -2)])

    def test_who_left_or_was_put_out_is_not_in_it(self):
        for name, call in OF_A_ROOM.items():
            with self.subTest(call=name):
                before = room_of(0) + bring([2, 3]) + [leave(2, 0, 0), out(0, 0, 0, 3)]
                self.check(before, [(call(2, 0, 0), -2), (call(3, 0, 0), -2)])

    def test_founder_who_left_is_not_in_it(self):
        for name, call in OF_A_ROOM.items():
            with self.subTest(call=name):
                self.check(room_of(0) + [leave(0, 0, 0)], [(call(0, 0, 0), -2)])

    def test_all_minus_22_go_before_minus_2(self):
        for name, call in INVALID_OF_A_ROOM.items():
            with self.subTest(call=name):
                self.check(room_of(0), [(call(0, 0, 1), -22), (call(2, 0, 0), -22), (call(0, HUGE, HUGE), -22)])

    def test_minus_2_tells_a_room_from_no_room_to_nobody_outside(self):
        with_room = [found(0, 1)] + bring([1]) + [say(0, 0, 0)]
        for name, call in list(OF_A_ROOM.items()) + [("join", join)]:
            with self.subTest(call=name):
                self.check(with_room, [(call(2, 0, 0), -2), (call(2, 0, 1), -2)])

    def test_rooms_of_one_founder_are_apart(self):
        before = [found(0, 0), found(0, 1)] + bring([1], 0, 1)
        steps = [(say(1, 0, 0), -2), (say(1, 0, 1), 0), (say(0, 0, 0), 0), (say(0, 0, 1), 1),
                 (leave(0, 0, 0), 0), (say(0, 0, 1), 2), (say(0, 0, 0), -2)]
        self.check(before, steps)


def probes():
    """Calls whose answers tell of the state that they are put behind; they end it, so they come last."""
    calls = [rooms(p, k) for p in range(6) for k in range(3)]
    calls += [people(p, 0, 0, k) for p in range(3) for k in range(4)]
    calls += [read(p, 0, 0, m) for p in range(3) for m in range(6)] + [unread(p, 0, 0) for p in range(3)]
    calls += [find(p, word, k) for p in range(3) for word in (b"a", b"b", b"new") for k in range(3)]
    calls += [mark(p, 0, 0, m, kind) for p in range(3) for m in range(5) for kind in (0, 15)]
    calls += [say(p, founder, number) for p in range(6) for founder in range(3) for number in range(2)]
    calls += [past(p, 0, 0, 1) for p in range(6)]
    calls += [join(p, founder, number) for p in range(16) for founder in range(3) for number in range(2)]
    calls += [say(p, 0, 0, answered) for p in range(6) for answered in range(4)]
    calls += [invite(0, 0, 0, q) for q in range(16)]
    calls += [found(p, 0) for p in range(4) for times in range(4)]
    return calls


class RefusedChangesNothing(LineCase):
    # In room 0 of 0: 0 a keeper, 1 no keeper, 2 invited, 3 was put out; it hides its past and has five messages,
    # of which 1 doesn't see the first and has read the second; the last is gone.
    BEFORE = [found(0, 0), say(0, 0, 0)] + bring([1, 3]) + [invite(0, 0, 0, 2), out(0, 0, 0, 3)]
    BEFORE += [say(0, 0, 0, 0, b"a b"), say(1, 0, 0), say(0, 0, 0), say(1, 0, 0, 2), remove(1, 0, 0, 4)]
    BEFORE += [mark(1, 0, 0, 1, 0), mark(0, 0, 0, 2, 15), change(0, 0, 0, 3, b"b"), seen(1, 0, 0, 1)]
    REFUSED = [
        (found(16, 0), -22), (found(0, 2), -22), (found(1, HUGE), -22),
        (invite(16, 0, 0, 4), -22), (invite(0, 0, 0, 16), -22), (invite(0, 0, 1, 4), -2), (invite(2, 0, 0, 4), -2),
        (invite(1, 0, 0, 4), -1), (invite(0, 0, 0, 1), -17), (invite(0, 0, 0, 2), -17), (invite(0, 0, 0, 0), -17),
        (join(16, 0, 0), -22), (join(1, 0, 0), -2), (join(3, 0, 0), -2), (join(2, 0, 1), -2),
        (leave(16, 0, 0), -22), (leave(2, 0, 0), -2), (leave(3, 0, 0), -2), (leave(0, 0, 1), -2),
        (out(0, 0, 0, 16), -22), (out(2, 0, 0, 1), -2), (out(1, 0, 0, 0), -1), (out(1, 0, 0, 2), -1),
        (out(1, 0, 0, 1), -1), (out(0, 0, 0, 0), -61), (out(0, 0, 0, 3), -61),
        (lift(0, 0, 0, 16), -22), (lift(2, 0, 0, 1), -2), (lift(1, 0, 0, 1), -1), (lift(0, 0, 0, 2), -61),
        (lift(0, 0, 0, 3), -61), (lift(0, 0, 0, 0), -17),
        (past(0, 0, 0, 2), -22), (past(2, 0, 0, 1), -2), (past(1, 0, 0, 1), -1),
        (say(0, 0, 0, 0, []), -22), (say(0, 0, 0, 0, [65] * 257), -22), (say(0, 0, 0, 0, [65, 127]), -22),
        (say(2, 0, 0), -2), (say(3, 0, 0), -2), (say(0, 0, 0, 6), -61), (say(0, 0, 0, HUGE), -61),
        (say(1, 0, 0, 1), -61), (say(0, 0, 0, 5), -61),
        (change(0, 0, 0, 1, []), -22), (change(0, 0, 0, 1, [65] * 257), -22), (change(0, 0, 0, 1, [31]), -22),
        (change(16, 0, 0, 1), -22), (change(2, 0, 0, 1, b"new"), -2), (change(0, 0, 1, 1, b"new"), -2),
        (change(1, 0, 0, 0, b"new"), -61), (change(1, 0, 0, 4, b"new"), -61), (change(0, 0, 0, 5, b"new"), -61),
        (change(0, 0, 0, HUGE, b"new"), -61), (change(1, 0, 0, 1, b"new"), -1), (change(0, 0, 0, 2, b"new"), -1),
        (remove(16, 0, 0, 1), -22), (remove(2, 0, 0, 1), -2), (remove(0, 1, 0, 1), -2), (remove(1, 0, 0, 0), -61),
        (remove(0, 0, 0, 4), -61), (remove(0, 0, 0, 5), -61), (remove(0, 0, 0, HUGE), -61), (remove(1, 0, 0, 1), -1),
        (mark(16, 0, 0, 1, 0), -22), (mark(0, 0, 0, 1, 16), -22), (mark(2, 0, 0, 1, 0), -2), (mark(0, 0, 1, 1, 0), -2),
        (mark(1, 0, 0, 0, 0), -61), (mark(0, 0, 0, 4, 0), -61), (mark(0, 0, 0, 5, 0), -61),
        (seen(16, 0, 0, 3), -22), (seen(2, 0, 0, 3), -2), (seen(1, 0, 1, 3), -2), (seen(1, 0, 0, 0), -61),
        (seen(1, 0, 0, 5), -61), (seen(1, 0, 0, HUGE), -61),
        (read(16, 0, 0, 1), -22), (read(2, 0, 0, 1), -2), (read(1, 0, 1, 1), -2), (read(1, 0, 0, 0), -61),
        (read(1, 0, 0, 5), -61), (unread(16, 0, 0), -22), (unread(2, 0, 0), -2), (unread(0, 0, 1), -2),
        (rooms(16, 0), -22), (people(16, 0, 0, 0), -22), (people(2, 0, 0, 0), -2), (people(0, 0, 1, 0), -2),
        (find(16, b"a"), -22), (find(0, b""), -22), (find(0, b"a b"), -22), (find(0, [97] * 33), -22),
    ]

    def test_what_stands_ahead_is_taken(self):
        self.check(self.BEFORE, [(rooms(0, 0), [1, 0, 0, 2, 5])])

    def test_each_by_itself(self):
        wanted = self.ask(self.BEFORE + probes())[len(self.BEFORE):]
        for call, refusal in self.REFUSED:
            with self.subTest(call=call):
                told = self.ask(self.BEFORE + [call] + probes())[len(self.BEFORE):]
                self.same(told, [refusal] + wanted)

    def test_all_behind_one_another(self):
        wanted = self.ask(self.BEFORE + probes())[len(self.BEFORE):]
        told = self.ask(self.BEFORE + [call for call, refusal in self.REFUSED] + probes())[len(self.BEFORE):]
        self.same(told, [refusal for call, refusal in self.REFUSED] + wanted)

    def test_where_there_is_no_place_left(self):
        before = [found(0, 0)] * 4 + bring(range(1, 12)) + [say(0, 0, 0)] * 128
        wanted = self.ask(before + probes())[len(before):]
        for call in (found(0, 1), invite(0, 0, 0, 12), say(1, 0, 0)):
            with self.subTest(call=call):
                self.same(self.ask(before + [call] + probes())[len(before):], [-28] + wanted)

    def test_where_a_message_was_changed_255_times(self):
        before = self.BEFORE + [change(0, 0, 0, 1, b"a")] * 255
        wanted = self.ask(before + probes())[len(before):]
        told = self.ask(before + [change(0, 0, 0, 1, b"new")] + probes())[len(before):]
        self.same(told, [-28] + wanted)


class TellingChangesNothing(LineCase):
    def test_calls_that_only_tell(self):
        before = RefusedChangesNothing.BEFORE
        telling = [read(1, 0, 0, 1), read(0, 0, 0, 4), unread(1, 0, 0), rooms(0, 0), rooms(2, 0), rooms(0, HUGE),
                   people(0, 0, 0, 0), people(1, 0, 0, 9), find(0, b"a"), find(1, b"b", 1), find(2, b"a")]
        wanted = self.ask(before + probes())[len(before):]
        self.same(self.ask(before + telling + probes())[len(before + telling):], wanted)


class Begin(LineCase):
    def test_begin_refuses_nobody_and_may_come_at_any_time(self):
        self.check([], [(begin(), 0), (begin(), 0), (found(0, 0), 0), (begin(), 0)])


if __name__ == "__main__":
    unittest.main()
