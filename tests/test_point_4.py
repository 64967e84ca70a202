"""Point 4: say."""

import unittest

from tests.lines import HUGE, LineCase, bring, found, leave, message, read, remove, say


class Texts(LineCase):
    def test_lengths(self):
        for length, wanted in ((0, -22), (1, 0), (2, 0), (255, 0), (256, 0), (257, -22), (400, -22)):
            with self.subTest(length=length):
                self.check([found(0, 0)], [(say(0, 0, 0, 0, [97] * length), wanted)])

    def test_each_byte(self):
        for byte in range(256):
            wanted = 0 if 32 <= byte <= 126 else -22
            with self.subTest(byte=byte):
                for text in ([byte], [byte, 97], [97, byte], [97] * 255 + [byte], [97, byte, 97]):
                    self.check([found(0, 0)], [(say(0, 0, 0, 0, text), wanted)])

    def test_all_bytes_of_texts_together(self):
        self.check([found(0, 0)], [(say(0, 0, 0, 0, range(32, 127)), 0), (say(0, 0, 0, 0, range(31, 127)), -22),
                                   (say(0, 0, 0, 0, range(32, 128)), -22)])


class Numbers(LineCase):
    def test_from_0_on(self):
        steps = [(say(k % 3, 0, 0), k) for k in range(12)]
        self.check([found(0, 0)] + bring([1, 2]), steps)

    def test_of_each_room_by_itself(self):
        before = [found(0, 0), found(0, 0), found(1, 0)]
        self.check(before, [(say(0, 0, 0), 0), (say(0, 0, 1), 0), (say(1, 1, 0), 0), (say(0, 0, 0), 1)])

    def test_the_128th_and_the_one_behind(self):
        before = [found(0, 1)] + bring([1]) + [say(0, 0, 0)] * 127
        self.check(before, [(say(1, 0, 0), 127), (say(1, 0, 0), -28), (say(0, 0, 0), -28), (say(0, 0, 0, 128), -28)])

    def test_full_room_leaves_others_free(self):
        self.check([found(0, 1), found(0, 1)] + [say(0, 0, 0)] * 128, [(say(0, 0, 0), -28), (say(0, 0, 1), 0)])

    def test_full_room_stays_full_whoever_leaves(self):
        before = [found(0, 1)] + bring([1]) + [say(0, 0, 0)] * 128 + [leave(0, 0, 0)]
        self.check(before, [(say(1, 0, 0), -28)])


class Answering(LineCase):
    def test_one_more_than_a_message(self):
        before = [found(0, 0), say(0, 0, 0), say(0, 0, 0)]
        self.check(before, [(say(0, 0, 0, 3), -61), (say(0, 0, 0, 1), 2), (say(0, 0, 0, 2), 3), (say(0, 0, 0, 4), 4),
                            (say(0, 0, 0, 6), -61), (say(0, 0, 0, 5), 5), (say(0, 0, 0, 0), 6)])

    def test_not_itself(self):
        self.check([found(0, 0)], [(say(0, 0, 0, 1), -61), (say(0, 0, 0), 0), (say(0, 0, 0, 2), -61)])

    def test_far_numbers(self):
        before = [found(0, 0)] + [say(0, 0, 0)] * 2
        self.check(before, [(say(0, 0, 0, k), -61) for k in (3, 127, 128, 129, 256, 257, 2147483649, HUGE)])

    def test_what_others_said_and_who_left(self):
        before = [found(0, 0)] + bring([1]) + [say(0, 0, 0), leave(0, 0, 0)]
        self.check(before, [(say(1, 0, 0, 1), 1)])

    def test_first_seen_and_the_one_before(self):
        before = [found(0, 0)] + [say(0, 0, 0)] * 5 + bring([1]) + [say(0, 0, 0)]
        self.check(before, [(say(1, 0, 0, 5), -61), (say(1, 0, 0, 6), 6), (say(1, 0, 0, 7), 7), (say(1, 0, 0, 9), -61)])

    def test_seen_by_one_and_not_by_another(self):
        before = [found(0, 0)] + bring([1]) + [say(0, 0, 0)] + bring([2])
        self.check(before, [(say(2, 0, 0, 1), -61), (say(1, 0, 0, 1), 1), (say(0, 0, 0, 1), 2), (say(2, 0, 0, 2), 3)])

    def test_messages_of_another_room(self):
        self.check([found(0, 0), found(0, 0), say(0, 0, 0)], [(say(0, 0, 1, 1), -61), (say(0, 0, 0, 1), 1)])

    def test_not_one_that_is_gone(self):
        before = [found(0, 0), say(0, 0, 0), say(0, 0, 0, 1), remove(0, 0, 0, 0)]
        self.check(before, [(say(0, 0, 0, 1), -61), (say(0, 0, 0, 2), 2), (say(0, 0, 0, 0), 3)])


class Order(LineCase):
    def test_order_of_refusals(self):
        before = [found(0, 0)] + bring([1]) + [say(0, 0, 0)] * 128
        steps = [(say(0, 0, 0, 129, []), -22), (say(2, 0, 0, 129, []), -22), (say(2, 0, 0, 129), -2),
                 (say(0, 0, 1, 129), -2), (say(0, 0, 0, 129), -61), (say(0, 0, 0, HUGE), -61), (say(0, 0, 0, 128), -28)]
        self.check(before, steps)

    def test_unseen_goes_before_full(self):
        before = [found(0, 0)] + [say(0, 0, 0)] * 128 + bring([1])
        self.check(before, [(say(1, 0, 0, 128), -61), (say(1, 0, 0, 0), -28)])

    def test_gone_goes_before_full(self):
        before = [found(0, 0)] + [say(0, 0, 0)] * 128 + [remove(0, 0, 0, 5)]
        self.check(before, [(say(0, 0, 0, 6), -61), (say(0, 0, 0, 7), -28)])


class Kept(LineCase):
    def test_what_a_message_holds(self):
        before = [found(4, 0), say(4, 4, 0, 0, b"hi"), say(4, 4, 0, 1, b"!")]
        self.check(before, [(read(4, 4, 0, 0), message(4, b"hi")), (read(4, 4, 0, 1), message(4, b"!", 1))])


if __name__ == "__main__":
    unittest.main()
