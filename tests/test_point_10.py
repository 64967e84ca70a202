"""Point 10: find, and what the words of a text are."""

import string
import unittest

from tests.lines import (HUGE, LineCase, begin, bring, change, find, found, invite, join, leave, out, past, remove, say)

OF_WORDS = (string.ascii_letters + string.digits).encode()


def said(text):
    return [found(0, 0), say(0, 0, 0, 0, text)]


class Words(LineCase):
    def finds(self, text, words):
        self.check(said(text), [(find(0, word), [1, 0, 0, 0]) for word in words])

    def finds_not(self, text, words):
        self.check(said(text), [(find(0, word), 0) for word in words])

    def test_at_the_beginning_in_the_middle_and_at_the_end(self):
        self.finds(b"one two three", (b"one", b"two", b"three"))
        self.finds(b"-one- +two+ (three)", (b"one", b"two", b"three"))

    def test_the_whole_text(self):
        self.finds(b"alone", (b"alone",))
        self.finds(b"7", (b"7",))

    def test_part_of_a_longer_one(self):
        self.finds_not(b"another thing", (b"other", b"an", b"anothe", b"nother", b"thin", b"hing", b"t", b"g"))
        self.finds_not(b"a1", (b"a", b"1"))

    def test_longer_than_any(self):
        self.finds_not(b"an other", (b"another", b"others", b"ann"))

    def test_both_a_part_and_a_word(self):
        self.finds(b"another other", (b"other", b"another"))
        self.finds(b"other another", (b"other", b"another"))

    def test_capital_and_small_letters(self):
        for text in (b"Hello", b"hello", b"HELLO", b"so hElLo."):
            with self.subTest(text=text):
                self.finds(text, (b"hello", b"HELLO", b"Hello", b"heLLO"))

    def test_each_letter_both_ways(self):
        for letter in range(26):
            for text in ([65 + letter], [97 + letter]):
                others = [[97 + other] for other in range(26) if other != letter]
                self.finds(text, ([65 + letter], [97 + letter]))
                self.finds_not(text, others)

    def test_digits_with_letters(self):
        self.finds(b"room 101, b2 2b", (b"room", b"101", b"b2", b"2b", b"B2", b"2B"))
        self.finds_not(b"room 101, b2 2b", (b"10", b"01", b"1", b"b", b"2", b"room101"))

    def test_each_byte_of_texts_is_of_words_or_not(self):
        for byte in range(32, 127):
            with self.subTest(byte=byte):
                within = bytes([97, byte, 98])
                if byte in OF_WORDS:
                    self.finds(within, (within,))
                    self.finds_not(within, (b"a", b"b"))
                else:
                    self.finds(within, (b"a", b"b"))
                    self.finds_not(within, (b"ab",))

    def test_a_text_with_no_word(self):
        for text in (b" ", b"...", b"!?", b" - ", b"@[`{/:"):
            self.finds_not(text, [bytes([byte]) for byte in OF_WORDS])

    def test_signs_side_by_side(self):
        self.finds(b"  one,, -- two  ", (b"one", b"two"))

    def test_a_word_of_32_and_longer_ones_in_a_text(self):
        self.finds(b"x" * 32, (b"x" * 32,))
        self.finds_not(b"x" * 33, (b"x" * 32, b"x" * 31, b"x"))
        self.finds_not(b"x" * 256, (b"x" * 32,))
        self.finds(b"x" * 33 + b" " + b"x" * 32, (b"x" * 32,))

    def test_at_the_end_of_the_longest_text(self):
        self.finds(b"y" * 223 + b" " + b"x" * 32, (b"x" * 32,))
        self.finds(b"." * 255 + b"x", (b"x",))
        self.finds(b"a " * 127 + b"bc", (b"a", b"bc"))

    def test_a_word_said_twice_is_one_message(self):
        self.check(said(b"so so SO"), [(find(0, b"so", 0), [1, 0, 0, 0]), (find(0, b"so", 1), 0)])


class WhatIsAWord(LineCase):
    def test_lengths(self):
        for length in (0, 1, 2, 31, 32, 33, 34, 256, 400):
            wanted = 0 if 1 <= length <= 32 else -22
            with self.subTest(length=length):
                self.check([found(0, 0)], [(find(0, [97] * length), wanted), (find(1, [97] * length), wanted)])

    def test_each_byte(self):
        for byte in range(256):
            wanted = 0 if byte in OF_WORDS else -22
            with self.subTest(byte=byte):
                for word in ([byte], [byte, 97], [97, byte], [97, byte, 97], [97] * 31 + [byte], [byte] * 32):
                    self.check([found(0, 0)], [(find(0, word), wanted)])

    def test_it_is_refused_though_a_message_says_just_that(self):
        before = [found(0, 0), say(0, 0, 0, 0, b"two words"), say(0, 0, 0, 0, b"don't"), say(0, 0, 0, 0, b"w" * 33)]
        self.check(before, [(find(0, b"two words"), -22), (find(0, b"don't"), -22), (find(0, b"w" * 33), -22),
                            (find(0, b" two"), -22), (find(0, b"two "), -22), (find(0, b""), -22)])

    def test_p_above_15(self):
        self.check(said(b"a"), [(find(16, b"a"), -22), (find(16, b""), -22), (find(HUGE, b"a", HUGE), -22)])

    def test_whatever_k(self):
        self.check(said(b"a"), [(find(0, b"", k), -22) for k in (0, 1, HUGE)])


class InOrder(LineCase):
    def test_over_several_rooms(self):
        before = [found(9, 0), found(0, 0), found(0, 0), found(0, 0), found(15, 0)]
        before += bring([0], 9) + bring([0], 15)
        before += [say(15, 15, 0, 0, b"tea"), say(0, 9, 0, 0, b"no"), say(0, 9, 0, 0, b"Tea!"), say(9, 9, 0, 0, b"tea")]
        before += [say(0, 0, 2, 0, b"more tea"), say(0, 0, 0, 0, b"tea"), say(0, 0, 0, 0, b"teas"),
                   say(0, 0, 0, 0, b"TEA, tea")]
        hits = [[0, 0, 0], [0, 0, 2], [0, 2, 0], [9, 0, 1], [9, 0, 2], [15, 0, 0]]
        steps = [(find(0, b"tea", k), [1] + hit) for k, hit in enumerate(hits)]
        steps += [(find(0, b"tea", k), 0) for k in (6, 7, 2147483648, HUGE)]
        self.check(before, steps + [(find(0, b"teas", 0), [1, 0, 0, 1]), (find(0, b"teas", 1), 0)])

    def test_all_128_of_a_room(self):
        before = [found(0, 0)] + [say(0, 0, 0, 0, b"x")] * 128
        steps = [(find(0, b"x", k), [1, 0, 0, k]) for k in range(128)]
        self.check(before, steps + [(find(0, b"x", k), 0) for k in (128, 129, 256, HUGE)])

    def test_nothing_to_find(self):
        self.check([], [(find(0, b"a", k), 0) for k in (0, 1, HUGE)])
        self.check([found(0, 0)], [(find(0, b"a", k), 0) for k in (0, 1, HUGE)])


class WhoFinds(LineCase):
    def test_in_rooms_that_one_is_in_alone(self):
        before = said(b"tea") + [invite(0, 0, 0, 1)]
        self.check(before, [(find(1, b"tea"), 0), (find(2, b"tea"), 0), (find(0, b"tea"), [1, 0, 0, 0])])

    def test_who_left_or_was_put_out_finds_nothing(self):
        before = [found(0, 1)] + bring([1, 2]) + [say(1, 0, 0, 0, b"tea")]
        self.check(before, [(find(1, b"tea"), [1, 0, 0, 0]), (find(2, b"tea"), [1, 0, 0, 0]), (leave(1, 0, 0), 0),
                            (out(0, 0, 0, 2), 0), (find(1, b"tea"), 0), (find(2, b"tea"), 0), (invite(0, 0, 0, 1), 0),
                            (find(1, b"tea"), 0), (join(1, 0, 0), 0), (find(1, b"tea"), [1, 0, 0, 0])])

    def test_what_was_before(self):
        for shown, first in ((0, 2), (1, 0)):
            with self.subTest(past=shown):
                before = [found(0, shown)] + [say(0, 0, 0, 0, b"tea")] * 2 + bring([1])
                before += [past(0, 0, 0, 1 - shown)] + [say(0, 0, 0, 0, b"tea")] * 2
                steps = [(find(1, b"tea", k), [1, 0, 0, first + k]) for k in range(4 - first)]
                self.check(before, steps + [(find(1, b"tea", 4 - first), 0), (find(0, b"tea", 3), [1, 0, 0, 3])])

    def test_unseen_ones_of_one_room_do_not_count_ahead_of_another(self):
        before = [found(0, 0), found(0, 0)] + [say(0, 0, 0, 0, b"tea")] * 2 + bring([1]) + bring([1], 0, 1)
        before += [say(0, 0, 1, 0, b"tea")]
        self.check(before, [(find(1, b"tea", 0), [1, 0, 1, 0]), (find(1, b"tea", 1), 0),
                            (find(0, b"tea", 2), [1, 0, 1, 0])])


class Texts(LineCase):
    def test_before_and_after_a_change(self):
        before = said(b"old tea") + [change(0, 0, 0, 0, b"new tea")]
        self.check(before, [(find(0, b"old"), 0), (find(0, b"new"), [1, 0, 0, 0]), (find(0, b"tea", 0), [1, 0, 0, 0]),
                            (find(0, b"tea", 1), 0), (change(0, 0, 0, 0, b"..."), 0), (find(0, b"new"), 0),
                            (find(0, b"tea"), 0), (change(0, 0, 0, 0, b"old"), 0), (find(0, b"old"), [1, 0, 0, 0])])

    def test_after_it_was_removed(self):
        before = said(b"tea") + [say(0, 0, 0, 0, b"tea"), remove(0, 0, 0, 0)]
        self.check(before, [(find(0, b"tea", 0), [1, 0, 0, 1]), (find(0, b"tea", 1), 0), (remove(0, 0, 0, 1), 0),
                            (find(0, b"tea"), 0), (say(0, 0, 0, 0, b"tea"), 2), (find(0, b"tea"), [1, 0, 0, 2])])

    def test_a_refused_change_leaves_its_words(self):
        before = [found(0, 0)] + bring([1]) + [say(0, 0, 0, 0, b"tea")]
        self.check(before, [(change(1, 0, 0, 0, b"milk"), -1), (find(0, b"milk"), 0), (find(0, b"tea"), [1, 0, 0, 0])])

    def test_nothing_behind_begin(self):
        self.check(said(b"tea") + [begin(), found(0, 0)], [(find(0, b"tea"), 0)])


if __name__ == "__main__":
    unittest.main()
