"""Calls as they stand in a list, and a test case that asks for what they answer."""

import unittest

from talkrooms.house import answers

HUGE = 4294967295
ABOVE_PEOPLE = (16, 17, 255, 256, 2147483648, HUGE)
LETTER = [97]


def begin():
    return [0]


def found(p, past):
    return [1, p, past]


def invite(p, founder, number, q):
    return [2, p, founder, number, q]


def join(p, founder, number):
    return [3, p, founder, number]


def leave(p, founder, number):
    return [4, p, founder, number]


def out(p, founder, number, q):
    return [5, p, founder, number, q]


def lift(p, founder, number, q):
    return [6, p, founder, number, q]


def past(p, founder, number, shown):
    return [7, p, founder, number, shown]


def say(p, founder, number, answered=0, text=LETTER):
    return [8, p, founder, number, answered, len(text)] + list(text)


def line(calls):
    return [number for call in calls for number in call]


def split(told):
    """The answers of the calls, each a list of its own."""
    parts = []
    place = 0
    while place < len(told):
        behind = place + 1 + told[place]
        parts.append(told[place + 1:behind])
        place = behind
    return parts


def bring(who, founder=0, number=0):
    """Calls by which the founder, a keeper, invites them and they join."""
    calls = []
    for q in who:
        calls += [invite(founder, founder, number, q), join(q, founder, number)]
    return calls


class LineCase(unittest.TestCase):
    def ask(self, calls):
        """What each call answers, begin being put ahead of them and its answer left away."""
        parts = split(answers(line([begin()] + calls)))
        self.assertEqual(len(parts), len(calls) + 1)
        self.assertEqual(parts[0], [0])
        for part in parts:
            self.assertEqual(len(part), 1)
            self.assertIs(type(part[0]), int)
        return [part[0] for part in parts[1:]]

    def same(self, told, wanted):
        # unittest's own comparison of long lists may take minutes to show how they differ.
        self.assertEqual(len(told), len(wanted))
        for k, number in enumerate(wanted):
            self.assertEqual(told[k], number, f"answer {k}")

    def check(self, before, steps):
        """steps are pairs of a call and its answer; all of before is to be taken, not refused."""
        told = self.ask(before + [call for call, wanted in steps])
        for k, number in enumerate(told[:len(before)]):
            self.assertGreaterEqual(number, 0, (k, before[k]))
        self.same(told[len(before):], [wanted for call, wanted in steps])
