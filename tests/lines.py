"""Calls as they stand in a list, and a test case that asks for what they answer."""

import unittest

from talkrooms.house import answers

HUGE = 4294967295
ABOVE_PEOPLE = (16, 17, 255, 256, 2147483648, HUGE)
LETTER = [97]


def begin():
    return [0]


def found(p, past):
    return [1, p, past]


def invite(p, founder, number, q):
    return [2, p, founder, number, q]


def join(p, founder, number):
    return [3, p, founder, number]


def leave(p, founder, number):
    return [4, p, founder, number]


def out(p, founder, number, q):
    return [5, p, founder, number, q]


def lift(p, founder, number, q):
    return [6, p, founder, number, q]


def past(p, founder, number, shown):
    return [7, p, founder, number, shown]


def say(p, founder, number, answered=0, text=LETTER):
    return [8, p, founder, number, answered, len(text)] + list(text)


def change(p, founder, number, m, text=LETTER):
    return [9, p, founder, number, m, len(text)] + list(text)


def remove(p, founder, number, m):
    return [10, p, founder, number, m]


def mark(p, founder, number, m, kind):
    return [11, p, founder, number, m, kind]


def seen(p, founder, number, m):
    return [12, p, founder, number, m]


def read(p, founder, number, m):
    return [13, p, founder, number, m]


def unread(p, founder, number):
    return [14, p, founder, number]


def rooms(p, k):
    return [15, p, k]


def people(p, founder, number, k):
    return [16, p, founder, number, k]


def find(p, word, k=0):
    return [17, p, k, len(word)] + list(word)


def message(who, text=LETTER, answered=0, changed=0, marks=()):
    """What read answers of a message; marks are pairs of a kind and how many there are of it."""
    counts = [dict(marks).get(kind, 0) for kind in range(16)]
    return [0] + counts + [who, answered, changed, 0] + list(text)


def gone(who, answered=0, changed=0):
    """What read answers of a message that is gone."""
    return [0] * 17 + [who, answered, changed, 1]


def line(calls):
    return [number for call in calls for number in call]


def split(told):
    """The answers of the calls, each a list of its own."""
    parts = []
    place = 0
    while place < len(told):
        behind = place + 1 + told[place]
        parts.append(told[place + 1:behind])
        place = behind
    return parts


def bring(who, founder=0, number=0):
    """Calls by which the founder, a keeper, invites them and they join."""
    calls = []
    for q in who:
        calls += [invite(founder, founder, number, q), join(q, founder, number)]
    return calls


# How many numbers the calls answer that tell more than one, where they have something to tell.
LENGTHS = {15: 5, 16: 3, 17: 4}


class LineCase(unittest.TestCase):
    def ask(self, calls):
        """What each call answers, begin being put ahead of them and its answer left away.

        One number stands by itself, several stand in a list.
        """
        parts = split(answers(line([begin()] + calls)))
        self.assertEqual(len(parts), len(calls) + 1)
        self.assertEqual(parts[0], [0])
        for call, part in zip(calls, parts[1:]):
            for number in part:
                self.assertIs(type(number), int)
            if call[0] == 13 and part[0] == 0:
                self.assertGreaterEqual(len(part), 21)
            else:
                self.assertEqual(len(part), LENGTHS.get(call[0], 1) if part[0] > 0 else 1, (call, part))
        return [part if len(part) > 1 else part[0] for part in parts[1:]]

    def same(self, told, wanted):
        # unittest's own comparison of long lists may take minutes to show how they differ.
        self.assertEqual(len(told), len(wanted))
        for k, answer in enumerate(wanted):
            self.assertEqual(told[k], answer, f"answer {k}")

    def check(self, before, steps):
        """steps are pairs of a call and its answer; all of before is to be taken, not refused."""
        told = self.ask(before + [call for call, wanted in steps])
        for k, answer in enumerate(told[:len(before)]):
            self.assertGreaterEqual(answer if isinstance(answer, int) else answer[0], 0, (k, before[k]))
        self.same(told[len(before):], [wanted for call, wanted in steps])
