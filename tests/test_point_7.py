"""Point 7: read."""

import unittest

from tests.lines import (HUGE, LineCase, bring, change, found, gone, leave, mark, message, read, remove, say, unread)


class Read(LineCase):
    def test_number_by_number(self):
        before = [found(0, 0)] + bring([9]) + [say(0, 0, 0), say(9, 0, 0, 1, b"Hi!"), mark(0, 0, 0, 1, 0),
                                               mark(9, 0, 0, 1, 0), mark(0, 0, 0, 1, 14), change(9, 0, 0, 1, b"Ho")]
        wanted = [0, 2, 0, 0, 0, 0, 0, 0, 0, 0, 0, 0, 0, 0, 0, 1, 0, 9, 1, 1, 0, 72, 111]
        self.check(before, [(read(0, 0, 0, 1), wanted), (read(9, 0, 0, 1), wanted)])

    def test_number_by_number_of_one_that_is_gone(self):
        before = [found(0, 0)] + bring([9]) + [say(0, 0, 0), say(9, 0, 0, 1, b"Hi!"), mark(0, 0, 0, 1, 0),
                                               change(9, 0, 0, 1, b"Ho"), remove(0, 0, 0, 1)]
        self.check(before, [(read(0, 0, 0, 1), [0] * 17 + [9, 1, 1, 1])])

    def test_texts_as_they_were_said(self):
        texts = (b" ", b"~", b"Mixed CASE, 12 signs:  ~!", bytes(range(32, 127)), b"x" * 256, b" " * 256)
        before = [found(0, 0)] + [say(0, 0, 0, 0, text) for text in texts]
        self.check(before, [(read(0, 0, 0, m), message(0, text)) for m, text in enumerate(texts)])

    def test_what_it_answers(self):
        before = [found(0, 0)] + [say(0, 0, 0, answered) for answered in (0, 1, 2, 1, 0, 5)]
        steps = [(read(0, 0, 0, m), message(0, answered=answered)) for m, answered in enumerate((0, 1, 2, 1, 0, 5))]
        self.check(before, steps)

    def test_the_last_of_128_answers_the_one_before(self):
        before = [found(0, 0)] + [say(0, 0, 0)] * 127 + [say(0, 0, 0, 127)]
        self.check(before, [(read(0, 0, 0, 127), message(0, answered=127)), (read(0, 0, 0, 128), -61)])

    def test_answering_one_that_the_reader_does_not_see(self):
        before = [found(0, 0), say(0, 0, 0)] + bring([1]) + [say(0, 0, 0, 1)]
        self.check(before, [(read(1, 0, 0, 1), message(0, answered=1)), (read(1, 0, 0, 0), -61)])

    def test_who_said_it_stays_when_they_leave(self):
        before = [found(0, 0)] + bring([15]) + [say(15, 0, 0), leave(15, 0, 0)]
        self.check(before, [(read(0, 0, 0, 0), message(15)), (read(15, 0, 0, 0), -2)])

    def test_no_message(self):
        before = [found(0, 0), found(0, 0), say(0, 0, 1)]
        self.check(before, [(read(0, 0, 0, m), -61) for m in (0, 1, 127, 128, 256, 2147483648, HUGE)])

    def test_first_seen_and_the_one_before(self):
        before = [found(0, 0)] + [say(0, 0, 0)] * 3 + bring([1]) + [say(0, 0, 0, 0, b"new")]
        self.check(before, [(read(1, 0, 0, 2), -61), (read(1, 0, 0, 3), message(0, b"new")), (read(1, 0, 0, 4), -61),
                            (read(0, 0, 0, 2), message(0))])

    def test_reads_no_further_for_unread(self):
        before = [found(0, 1)] + bring([1]) + [say(0, 0, 0)] * 2
        self.check(before, [(read(1, 0, 0, 1), message(0)), (unread(1, 0, 0), 2)])

    def test_gone_at_any_place(self):
        before = [found(0, 0)] + [say(0, 0, 0)] * 3 + [remove(0, 0, 0, 0), remove(0, 0, 0, 2)]
        self.check(before, [(read(0, 0, 0, 0), gone(0)), (read(0, 0, 0, 1), message(0)), (read(0, 0, 0, 2), gone(0)),
                            (read(0, 0, 0, 3), -61)])

    def test_order_of_refusals(self):
        before = [found(0, 0), say(0, 0, 0)]
        self.check(before, [(read(16, 0, 0, 0), -22), (read(HUGE, HUGE, HUGE, HUGE), -22), (read(1, 0, 0, 0), -2),
                            (read(1, 0, 0, 9), -2), (read(0, 0, 1, 0), -2), (read(0, 0, 0, 9), -61)])


if __name__ == "__main__":
    unittest.main()
