"""Point 5: change, remove, mark."""

import unittest

from tests.lines import (HUGE, LineCase, bring, change, find, found, gone, invite, join, leave, lift, mark, message,
                         out, past, read, remove, rooms, say)

FAR = (1, 2, 127, 128, 129, 256, 2147483648, HUGE)


class Change(LineCase):
    def test_has_this_text_and_was_changed_once_more(self):
        before = [found(0, 0), say(0, 0, 0, 0, b"first")]
        steps = [(change(0, 0, 0, 0, b"second"), 0), (read(0, 0, 0, 0), message(0, b"second", 0, 1)),
                 (change(0, 0, 0, 0, b"third, and last"), 0), (read(0, 0, 0, 0), message(0, b"third, and last", 0, 2))]
        self.check(before, steps)

    def test_to_the_same_text_counts_too(self):
        before = [found(0, 0), say(0, 0, 0), change(0, 0, 0, 0), change(0, 0, 0, 0)]
        self.check(before, [(read(0, 0, 0, 0), message(0, b"a", 0, 2))])

    def test_lengths(self):
        for length, wanted in ((0, -22), (1, 0), (2, 0), (255, 0), (256, 0), (257, -22), (400, -22)):
            with self.subTest(length=length):
                held = message(0, [98] * length, 0, 1) if wanted == 0 else message(0)
                self.check([found(0, 0), say(0, 0, 0)],
                           [(change(0, 0, 0, 0, [98] * length), wanted), (read(0, 0, 0, 0), held)])

    def test_each_byte(self):
        for byte in range(256):
            wanted = 0 if 32 <= byte <= 126 else -22
            with self.subTest(byte=byte):
                for text in ([byte], [byte, 97], [97, byte], [97] * 255 + [byte]):
                    self.check([found(0, 0), say(0, 0, 0)], [(change(0, 0, 0, 0, text), wanted)])

    def test_all_else_of_it_stays(self):
        before = [found(0, 0)] + bring([1, 2]) + [say(0, 0, 0), say(1, 0, 0, 1, b"yes"), mark(2, 0, 0, 1, 3),
                                                  mark(1, 0, 0, 1, 3), mark(0, 0, 0, 1, 15), change(1, 0, 0, 1, b"no")]
        self.check(before, [(read(0, 0, 0, 1), message(1, b"no", 1, 1, [(3, 2), (15, 1)])),
                            (read(0, 0, 0, 0), message(0)), (rooms(0, 0), [1, 0, 0, 2, 2]), (mark(2, 0, 0, 1, 3), 0)])

    def test_other_messages_stay(self):
        before = [found(0, 0), found(0, 0)] + [say(0, 0, 0), say(0, 0, 0), say(0, 0, 0), say(0, 0, 1)]
        steps = [(change(0, 0, 0, 1, b"b"), 0), (read(0, 0, 0, 1), message(0, b"b", 0, 1))]
        steps += [(read(0, 0, 0, m), message(0)) for m in (0, 2)] + [(read(0, 0, 1, 0), message(0))]
        self.check(before, steps)

    def test_no_message(self):
        before = [found(0, 0), say(0, 0, 0)]
        self.check(before, [(change(0, 0, 0, m), -61) for m in FAR] + [(read(0, 0, 0, 0), message(0))])

    def test_not_ones_own(self):
        # Keepers may take away what others said, but not change it.
        before = [found(0, 0)] + bring([1, 2]) + [say(1, 0, 0)]
        self.check(before, [(change(0, 0, 0, 0, b"b"), -1), (change(2, 0, 0, 0, b"b"), -1),
                            (read(1, 0, 0, 0), message(1)), (change(1, 0, 0, 0, b"b"), 0)])

    def test_gone(self):
        before = [found(0, 0), say(0, 0, 0), remove(0, 0, 0, 0)]
        self.check(before, [(change(0, 0, 0, 0, b"b"), -61), (read(0, 0, 0, 0), gone(0))])

    def test_the_255th_and_the_one_behind(self):
        before = [found(0, 0), say(0, 0, 0), say(0, 0, 0)]
        steps = [(change(0, 0, 0, 0, [97 + k % 26]), 0) for k in range(255)]
        steps += [(read(0, 0, 0, 0), message(0, [97 + 254 % 26], 0, 255)), (change(0, 0, 0, 0, b"new"), -28),
                  (read(0, 0, 0, 0), message(0, [97 + 254 % 26], 0, 255)), (find(0, b"new"), 0),
                  (change(0, 0, 0, 0, b""), -22), (change(0, 0, 0, 1, b"new"), 0), (remove(0, 0, 0, 0), 0),
                  (change(0, 0, 0, 0, b"new"), -61), (read(0, 0, 0, 0), gone(0, 0, 255))]
        self.check(before, steps)

    def test_changed_255_times_and_not_ones_own(self):
        before = [found(0, 0)] + bring([1]) + [say(1, 0, 0)] + [change(1, 0, 0, 0)] * 255
        self.check(before, [(change(0, 0, 0, 0), -1), (change(1, 0, 0, 0), -28), (change(2, 0, 0, 0), -2)])

    def test_order_of_refusals(self):
        before = [found(0, 0)] + bring([1]) + [say(0, 0, 0), say(0, 0, 0), remove(0, 0, 0, 1)]
        steps = [(change(2, 0, 0, 9, b""), -22), (change(1, 0, 0, 9, b""), -22), (change(2, 0, 0, 9), -2),
                 (change(2, 0, 0, 0), -2), (change(0, 0, 1, 0), -2), (change(1, 0, 0, 1), -61),
                 (change(1, 0, 0, 2), -61), (change(1, 0, 0, 0), -1)]
        self.check(before, steps)


class Remove(LineCase):
    def test_is_gone(self):
        before = [found(0, 0), say(0, 0, 0, 0, b"word"), change(0, 0, 0, 0, b"other"), mark(0, 0, 0, 0, 0)]
        self.check(before, [(remove(0, 0, 0, 0), 0), (read(0, 0, 0, 0), gone(0, 0, 1)), (find(0, b"other"), 0),
                            (find(0, b"word"), 0), (rooms(0, 0), [1, 0, 0, 2, 1])])

    def test_who_and_what_it_answers_stay(self):
        before = [found(0, 0)] + bring([1]) + [say(0, 0, 0), say(1, 0, 0, 1)]
        self.check(before, [(remove(1, 0, 0, 1), 0), (read(0, 0, 0, 1), gone(1, 1))])

    def test_what_it_was_answered_by_stays(self):
        before = [found(0, 0), say(0, 0, 0, 0, b"q"), say(0, 0, 0, 1, b"re"), say(0, 0, 0, 2, b"re re")]
        steps = [(remove(0, 0, 0, 0), 0), (read(0, 0, 0, 1), message(0, b"re", 1)),
                 (read(0, 0, 0, 2), message(0, b"re re", 2)), (say(0, 0, 0, 1), -61), (say(0, 0, 0, 2), 3),
                 (change(0, 0, 0, 1, b"still"), 0), (read(0, 0, 0, 1), message(0, b"still", 1, 1))]
        self.check(before, steps)

    def test_only_once(self):
        before = [found(0, 0), say(0, 0, 0), remove(0, 0, 0, 0)]
        self.check(before, [(remove(0, 0, 0, 0), -61), (read(0, 0, 0, 0), gone(0))])

    def test_other_messages_stay(self):
        before = [found(0, 0), found(0, 0)] + [say(0, 0, 0), say(0, 0, 0), say(0, 0, 0), say(0, 0, 1)]
        steps = [(remove(0, 0, 0, 1), 0), (read(0, 0, 0, 1), gone(0))]
        steps += [(read(0, 0, 0, m), message(0)) for m in (0, 2)] + [(read(0, 0, 1, 0), message(0))]
        self.check(before, steps)

    def test_by_whom(self):
        before = [found(0, 0)] + bring([1, 2, 3]) + [lift(0, 0, 0, 3)] + [say(1, 0, 0)] * 4
        self.check(before, [(remove(2, 0, 0, 0), -1), (read(0, 0, 0, 0), message(1)), (remove(1, 0, 0, 0), 0),
                            (remove(0, 0, 0, 1), 0), (remove(3, 0, 0, 2), 0), (remove(2, 0, 0, 3), -1),
                            (lift(0, 0, 0, 2), 0), (remove(2, 0, 0, 3), 0), (read(1, 0, 0, 3), gone(1))])

    def test_a_keepers_by_another_keeper_and_by_none(self):
        before = [found(0, 0)] + bring([1, 2]) + [lift(0, 0, 0, 1), say(0, 0, 0)]
        self.check(before, [(remove(2, 0, 0, 0), -1), (remove(1, 0, 0, 0), 0)])

    def test_no_message(self):
        before = [found(0, 0), say(0, 0, 0)]
        self.check(before, [(remove(0, 0, 0, m), -61) for m in FAR] + [(read(0, 0, 0, 0), message(0))])

    def test_makes_no_place_and_no_number_free(self):
        before = [found(0, 0)] + [say(0, 0, 0)] * 127 + [remove(0, 0, 0, 126)]
        self.check(before, [(say(0, 0, 0), 127), (remove(0, 0, 0, 127), 0), (say(0, 0, 0), -28),
                            (rooms(0, 0), [1, 0, 0, 2, 128])])

    def test_what_was_said_by_one_who_left(self):
        before = [found(0, 0)] + bring([1, 2]) + [say(1, 0, 0), leave(1, 0, 0)]
        self.check(before, [(remove(1, 0, 0, 0), -2), (remove(2, 0, 0, 0), -1), (remove(0, 0, 0, 0), 0),
                            (read(0, 0, 0, 0), gone(1))])

    def test_ones_own_after_joining_again(self):
        before = [found(0, 1)] + bring([1]) + [say(1, 0, 0)] * 2 + [leave(1, 0, 0)] + bring([1])
        self.check(before, [(change(1, 0, 0, 0, b"b"), 0), (remove(1, 0, 0, 1), 0),
                            (read(0, 0, 0, 0), message(1, b"b", 0, 1)), (read(0, 0, 0, 1), gone(1))])

    def test_order_of_refusals(self):
        before = [found(0, 0)] + bring([1]) + [say(0, 0, 0), say(0, 0, 0), remove(0, 0, 0, 1)]
        steps = [(remove(16, 0, 0, 0), -22), (remove(16, HUGE, HUGE, HUGE), -22), (remove(2, 0, 0, 9), -2),
                 (remove(2, 0, 0, 0), -2), (remove(0, 0, 1, 0), -2), (remove(1, 0, 0, 1), -61),
                 (remove(1, 0, 0, 2), -61), (remove(1, 0, 0, 0), -1)]
        self.check(before, steps)


class Mark(LineCase):
    def test_the_same_twice(self):
        before = [found(0, 0), say(0, 0, 0)]
        steps = []
        for times in range(3):
            steps += [(mark(0, 0, 0, 0, 4), 1), (read(0, 0, 0, 0), message(0, marks=[(4, 1)])),
                      (mark(0, 0, 0, 0, 4), 0), (read(0, 0, 0, 0), message(0))]
        self.check(before, steps)

    def test_each_kind_by_itself(self):
        before = [found(0, 0), say(0, 0, 0)]
        steps = [(mark(0, 0, 0, 0, kind), 1) for kind in range(16)]
        steps += [(read(0, 0, 0, 0), message(0, marks=[(kind, 1) for kind in range(16)])), (mark(0, 0, 0, 0, 7), 0),
                  (read(0, 0, 0, 0), message(0, marks=[(kind, 1) for kind in range(16) if kind != 7]))]
        self.check(before, steps)

    def test_kind_at_the_edges(self):
        for kind, wanted in ((0, 1), (15, 1), (16, -22), (17, -22), (255, -22), (256, -22), (HUGE, -22)):
            with self.subTest(kind=kind):
                held = message(0, marks=[(kind, 1)] if wanted == 1 else [])
                self.check([found(0, 0), say(0, 0, 0)], [(mark(0, 0, 0, 0, kind), wanted), (read(0, 0, 0, 0), held)])

    def test_several_people_of_one_kind(self):
        before = [found(0, 0)] + bring(range(1, 12)) + [say(3, 0, 0)]
        steps = [(mark(q, 0, 0, 0, 9), 1) for q in range(12)] + [(read(5, 0, 0, 0), message(3, marks=[(9, 12)]))]
        steps += [(mark(q, 0, 0, 0, 9), 0) for q in (4, 0)] + [(read(5, 0, 0, 0), message(3, marks=[(9, 10)]))]
        steps += [(mark(4, 0, 0, 0, 9), 1), (mark(11, 0, 0, 0, 9), 0), (read(5, 0, 0, 0), message(3, marks=[(9, 10)]))]
        self.check(before, steps)

    def test_other_messages_have_none_of_it(self):
        before = [found(0, 0), found(0, 0)] + [say(0, 0, 0), say(0, 0, 0), say(0, 0, 1), mark(0, 0, 0, 1, 2)]
        self.check(before, [(read(0, 0, 0, 0), message(0)), (read(0, 0, 0, 1), message(0, marks=[(2, 1)])),
                            (read(0, 0, 1, 0), message(0)), (mark(0, 0, 1, 0, 2), 1), (mark(0, 0, 0, 0, 2), 1)])

    def test_of_one_who_has_left_stay(self):
        for goes in (leave(1, 0, 0), out(0, 0, 0, 1)):
            with self.subTest(goes=goes):
                before = [found(0, 1)] + bring([1]) + [say(0, 0, 0), mark(1, 0, 0, 0, 5), mark(0, 0, 0, 0, 5), goes]
                steps = [(read(0, 0, 0, 0), message(0, marks=[(5, 2)])), (mark(1, 0, 0, 0, 5), -2),
                         (invite(0, 0, 0, 1), 0), (mark(1, 0, 0, 0, 5), -2), (join(1, 0, 0), 0),
                         (read(1, 0, 0, 0), message(0, marks=[(5, 2)])), (mark(1, 0, 0, 0, 5), 0),
                         (read(0, 0, 0, 0), message(0, marks=[(5, 1)]))]
                self.check(before, steps)

    def test_of_a_message_that_is_removed_are_none(self):
        before = [found(0, 0)] + bring([1]) + [say(1, 0, 0), mark(0, 0, 0, 0, 0), mark(1, 0, 0, 0, 15)]
        self.check(before, [(remove(1, 0, 0, 0), 0), (read(0, 0, 0, 0), gone(1)), (mark(0, 0, 0, 0, 0), -61),
                            (mark(1, 0, 0, 0, 15), -61), (mark(0, 0, 0, 0, 3), -61), (read(0, 0, 0, 0), gone(1))])

    def test_anybody_in_it_marks_anybodys(self):
        before = [found(0, 0)] + bring([1, 2]) + [say(1, 0, 0)]
        self.check(before, [(mark(q, 0, 0, 0, q), 1) for q in range(3)] + [(mark(3, 0, 0, 0, 3), -2)])

    def test_no_message(self):
        before = [found(0, 0), say(0, 0, 0)]
        self.check(before, [(mark(0, 0, 0, m, 0), -61) for m in FAR] + [(read(0, 0, 0, 0), message(0))])

    def test_order_of_refusals(self):
        before = [found(0, 0), say(0, 0, 0)] + bring([1]) + [past(0, 0, 0, 1), say(1, 0, 0), remove(1, 0, 0, 1)]
        steps = [(mark(2, 0, 0, 9, 16), -22), (mark(0, 0, 0, 1, 16), -22), (mark(0, HUGE, HUGE, HUGE, HUGE), -22),
                 (mark(16, 0, 0, 0, 0), -22), (mark(2, 0, 0, 9, 0), -2), (mark(0, 0, 1, 0, 15), -2),
                 (mark(1, 0, 0, 0, 15), -61), (mark(0, 0, 0, 1, 15), -61), (mark(0, 0, 0, 2, 15), -61)]
        self.check(before, steps)


if __name__ == "__main__":
    unittest.main()
