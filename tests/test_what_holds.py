"""What holds over the whole program: a to d, on mixed lists of all calls."""

import random
import unittest

from tests.lines import (LineCase, begin, bring, change, find, found, invite, join, leave, lift, mark, message, out,
                         past, people, read, remove, rooms, say, seen, unread)
from tests.test_against_history import any_call


def woven(rng, own, others):
    """Pairs of a call and whether it is one of own, which stand in their order, with others' calls between them."""
    pairs = []
    for call in own:
        pairs += [(rng.choice(others), False) for times in range(rng.randrange(3))] + [(call, True)]
    return pairs


class Woven(LineCase):
    def tells_the_same(self, rng, before, own, others):
        """What own calls answer behind before is the same with others' calls between them and without."""
        pairs = woven(rng, own, others)
        told = self.ask(before + [call for call, kept in pairs])[len(before):]
        self.same([told[k] for k, pair in enumerate(pairs) if pair[1]], self.ask(before + own)[len(before):])


def calls_in_room(p, rng):
    """A call of p's in room 0 of 0, which p neither keeps nor leaves."""
    m, text = rng.randrange(16), rng.choice((b"tea", b"hid", b"new tea", b"x", b""))
    return rng.choice((
        say(p, 0, 0, rng.randrange(16), text), change(p, 0, 0, m, text), remove(p, 0, 0, m),
        mark(p, 0, 0, m, rng.randrange(3)), seen(p, 0, 0, m), read(p, 0, 0, m), read(p, 0, 0, m), unread(p, 0, 0),
        rooms(p, rng.randrange(3)), people(p, 0, 0, rng.randrange(5)), find(p, b"tea", rng.randrange(5)),
        find(p, b"hid", rng.randrange(3)), invite(p, 0, 0, rng.randrange(16)), out(p, 0, 0, rng.randrange(16)),
        lift(p, 0, 0, rng.randrange(4)), past(p, 0, 0, 1), join(p, 0, 0), found(p, 1)))


class ToldByWhatIsSeen(Woven):
    # 1 joined behind four messages that the room didn't show; 0 keeps it, and 2 is in it, too.
    BEFORE = [found(0, 0)] + bring([2]) + [say(0, 0, 0, 0, b"hid tea"), say(2, 0, 0), say(0, 0, 0, 1, b"hid"),
                                           say(2, 0, 0, 0, b"tea")] + bring([1])
    # What 1 can't see: of these messages, of who is invited, of what others have read, of whether it shows its past.
    UNSEEN = [change(0, 0, 0, 0, b"tea"), change(2, 0, 0, 1, b"hid"), change(0, 0, 0, 2, b"x"), remove(0, 0, 0, 1),
              remove(2, 0, 0, 3), mark(0, 0, 0, 0, 1), mark(2, 0, 0, 2, 0), mark(2, 0, 0, 0, 1), seen(0, 0, 0, 3),
              seen(2, 0, 0, 0), invite(0, 0, 0, 7), invite(0, 0, 0, 8), out(0, 0, 0, 7), out(0, 0, 0, 8),
              past(0, 0, 0, 1), past(0, 0, 0, 0), unread(2, 0, 0), find(0, b"hid"), read(0, 0, 0, 0)]

    def test_whatever_is_done_to_what_one_does_not_see(self):
        for seed in range(60):
            rng = random.Random(3000 + seed)
            own = []
            for k in range(60):
                own.append(calls_in_room(1, rng))
                # Others, too, speak where 1 hears it; what they answer is among what 1 sees.
                if k % 4 == 0:
                    own.append(say(rng.choice((0, 2)), 0, 0, 0, b"tea"))
            with self.subTest(seed=seed):
                self.tells_the_same(rng, self.BEFORE, own, self.UNSEEN)

    def test_what_was_said_before_makes_no_difference(self):
        texts = ((b"hid tea", b"tea", b"hid", b"tea"), (b"x", b"...", b"y", b"TEA tea"))
        for seed in range(30):
            told = []
            for four in texts:
                rng = random.Random(4000 + seed)
                before = [found(0, 0)] + bring([2]) + [say(0, 0, 0, 0, text) for text in four] + bring([1])
                own = [calls_in_room(1, rng) for k in range(60)]
                told.append(self.ask(before + own)[len(before):])
            with self.subTest(seed=seed):
                self.same(told[0], told[1])

    def test_who_is_outside_is_told_of_a_room_as_of_none(self):
        inside = [found(0, 1)] + bring([2]) + [say(0, 0, 0, 0, b"tea"), mark(2, 0, 0, 0, 0), invite(0, 0, 0, 3)]
        for seed in range(30):
            rng = random.Random(5000 + seed)
            own = [calls_in_room(1, rng) for k in range(60)]
            with self.subTest(seed=seed):
                self.same(self.ask(inside + own)[len(inside):], self.ask(own))


class OthersElsewhere(Woven):
    # 2 to 5 are busy in rooms of 5's and 4's, to which nobody asks 0 or 1.
    THEIRS = [found(5, 1), invite(5, 5, 0, 2), join(2, 5, 0), say(2, 5, 0), lift(5, 5, 0, 2), leave(5, 5, 0),
              invite(2, 5, 0, 5), join(5, 5, 0), past(2, 5, 0, 0), out(2, 5, 0, 5), found(5, 0), leave(2, 5, 0),
              say(2, 5, 0, 1, b"a b c"), change(2, 5, 0, 0, b"ab"), remove(2, 5, 0, 1), mark(2, 5, 0, 0, 0),
              seen(2, 5, 0, 0), read(2, 5, 0, 0), find(2, b"a"), found(4, 1), say(4, 4, 0, 0, b"a"), invite(4, 4, 0, 3)]

    def test_p_is_told_the_same_whatever_others_do_elsewhere(self):
        for seed in range(60):
            rng = random.Random(2000 + seed)
            before = [found(0, 1), invite(0, 0, 0, 1), join(1, 0, 0), say(0, 0, 0), say(1, 0, 0)]
            own = [call for call in (any_call(rng, 4) for k in range(300)) if call[0] > 1 and call[1] in (0, 1)]
            with self.subTest(seed=seed):
                self.tells_the_same(rng, before, own, self.THEIRS)


class GoneIsGone(LineCase):
    def test_no_text_is_told_again(self):
        for seed in range(40):
            rng = random.Random(6000 + seed)
            calls = [found(0, seed % 2)] + bring([1, 2])
            held, fresh, by = [], 0, []
            for k in range(60):
                m = rng.randrange(max(1, len(held)))
                # Each text that is said has a word of its own.
                word = b"w%d" % fresh
                if len(held) < 5 or rng.random() < 0.2:
                    by.append(rng.randrange(3))
                    calls.append(say(by[-1], 0, 0, 0, word + b" " * (k % 2)))
                    held.append(word)
                    fresh += 1
                elif held[m] is not None and rng.random() < 0.6:
                    calls.append(change(by[m], 0, 0, m, b"- " + word))
                    held[m] = word
                    fresh += 1
                elif held[m] is not None:
                    calls.append(remove(rng.choice((0, by[m])), 0, 0, m))
                    held[m] = None
                if rng.random() < 0.1:
                    calls += [mark(1, 0, 0, len(held) - 1, 0), leave(2, 0, 0), past(0, 0, 0, 1)] + bring([2])
            with self.subTest(seed=seed):
                self.only_these_are_told(calls, held, fresh)

    def only_these_are_told(self, calls, held, fresh):
        for p in range(3):
            told = self.ask(calls + [read(p, 0, 0, m) for m in range(len(held))])[len(calls):]
            for m, word in enumerate(held):
                if told[m] != -61:
                    self.assertEqual(bytes(told[m][21:]).strip(b"- "), word or b"")
            words = [b"w%d" % number for number in range(fresh)]
            told = self.ask(calls + [find(p, word) for word in words])[len(calls):]
            for word, hit in zip(words, told):
                if hit != 0:
                    self.assertEqual(held[hit[3]], word)
                elif p == 0:
                    self.assertNotIn(word, held)

    def test_said_anew(self):
        before = [found(0, 0), say(0, 0, 0, 0, b"tea"), remove(0, 0, 0, 0), say(0, 0, 0, 0, b"tea")]
        self.check(before, [(find(0, b"tea"), [1, 0, 0, 1]), (find(0, b"tea", 1), 0),
                            (read(0, 0, 0, 1), message(0, b"tea"))])


class KeepersAndPlaces(LineCase):
    PLACES = [(founder, number) for founder in range(3) for number in range(2)]
    # Those whom any_call lets come into rooms, and one more.
    WHO = (0, 1, 2, 3, 4, 9, 15)

    def survey(self):
        """Calls by which these people ask for all rooms of theirs, and for all who are in them."""
        calls = [rooms(p, k) for p in self.WHO for k in range(24)]
        return calls + [people(p, *place, k) for place in self.PLACES for p in self.WHO for k in range(13)]

    def test_after_any_calls(self):
        survey = self.survey()
        for seed in range(60):
            rng = random.Random(1000 + seed)
            calls = [found(0, 0), found(1, 1)] + [any_call(rng, 5) for k in range(rng.randrange(300))]
            told = self.ask(calls + survey)[len(calls):]
            with self.subTest(seed=seed):
                self.look_at(list(zip(survey, told)))

    def look_at(self, pairs):
        for place in self.PLACES:
            standing = {}
            for call, answer in pairs:
                if call[0] == 15 and answer != 0 and tuple(answer[1:3]) == place:
                    self.assertNotIn(call[1], standing)
                    standing[call[1]] = answer[3]
            self.assertLessEqual(len(standing), 12)
            inside = [p for p in standing if standing[p] > 0]
            self.assertEqual(bool(inside), 2 in standing.values())
            for p in self.WHO:
                rows = [answer for call, answer in pairs if call[0] == 16 and (call[1], *call[2:4]) == (p, *place)]
                if p not in inside:
                    self.assertEqual(rows, [-2] * 13)
                    continue
                self.assertEqual(rows[len(inside):], [0] * (13 - len(inside)))
                self.assertEqual({row[1]: row[2] + 1 for row in rows[:len(inside)]}, {q: standing[q] for q in inside})

    def test_all_gone_and_begun_again(self):
        self.check([found(0, 0), leave(0, 0, 0), begin(), found(0, 0)], [(people(0, 0, 0, 0), [1, 0, 1])])


if __name__ == "__main__":
    unittest.main()
