"""Long mixed lists, compared with a second telling of points 1 to 4, and what holds of all of them.

The second telling keeps nothing but what was done, and works out anew, whenever it is asked, how things stand.
"""

import random
import unittest

from talkrooms.house import answer_to
from talkrooms.rooms import House
from tests.lines import HUGE, LineCase, begin, found, invite, join, leave, lift, out, past, say


def state(done, room):
    """How a room stands after what was done; None if it was never founded."""
    now = None
    for what, where, *rest in done:
        if where != room:
            continue
        if what == "found":
            now = {"in": {rest[0]: 0}, "keep": {rest[0]}, "asked": set(), "past": rest[1], "said": 0}
        elif what == "invite":
            now["asked"].add(rest[0])
        elif what == "join":
            now["asked"].discard(rest[0])
            if not now["in"]:
                now["keep"].add(rest[0])
            now["in"][rest[0]] = 0 if now["past"] else now["said"]
        elif what in ("leave", "out"):
            now["asked"].discard(rest[0])
            now["keep"].discard(rest[0])
            now["in"].pop(rest[0], None)
            if now["in"] and not now["keep"]:
                now["keep"].add(next(iter(now["in"])))
        elif what == "lift":
            now["keep"].add(rest[0])
        elif what == "past":
            now["past"] = rest[0]
        else:
            now["said"] += 1
    return now


def first_of(*cases):
    return next((number for number, holds in cases if holds()), None)


def wanted(done, call):
    """What the call answers; what it does is put behind done."""
    number, given = call[0], call[1:]
    if number == 0:
        done.clear()
        return 0
    p = given[0]
    if number == 1:
        mine = len([1 for act in done if act[0] == "found" and act[1][0] == p])
        no = first_of((-22, lambda: p > 15 or given[1] > 1), (-28, lambda: mine == 4))
        if no is None:
            done.append(("found", (p, mine), p, given[1]))
        return mine if no is None else no
    room = (given[1], given[2])
    now = state(done, room)
    q = given[3] if len(given) > 3 else p
    text = given[5:]
    absent = (-2, lambda: now is None or p not in now["in"])
    no_keeper = (-1, lambda: p not in now["keep"])
    above = (-22, lambda: p > 15 or q > 15)
    cases = {
        2: (above, absent, no_keeper, (-17, lambda: q in now["in"] or q in now["asked"]),
            (-28, lambda: len(now["in"]) + len(now["asked"]) == 12)),
        3: (above, (-2, lambda: now is None or p not in now["asked"])),
        4: (above, absent),
        5: (above, absent, no_keeper, (-61, lambda: q == p or (q not in now["in"] and q not in now["asked"]))),
        6: (above, absent, no_keeper, (-61, lambda: q not in now["in"]), (-17, lambda: q in now["keep"])),
        7: ((-22, lambda: p > 15 or q > 1), absent, no_keeper),
        8: ((-22, lambda: p > 15 or not 0 < len(text) < 257 or min(text) < 32 or max(text) > 126), absent,
            (-61, lambda: q != 0 and not now["in"][p] <= q - 1 < now["said"]), (-28, lambda: now["said"] == 128)),
    }
    no = first_of(*cases[number])
    if no is None:
        done.append((("invite", "join", "leave", "out", "lift", "past", "say")[number - 2], room, q))
        return now["said"] if number == 8 else 0
    return no


def person(rng, few):
    return rng.choice((15, 16, 17, HUGE)) if rng.random() < 0.03 else rng.randrange(few)


def any_call(rng, few):
    """A call by one of the first few people, now and then with something wrong in it."""
    p, q, founder = person(rng, few), person(rng, few), rng.randrange(2) if rng.random() < 0.97 else person(rng, few)
    number = rng.choice((0,) * 12 + (1, 1, 2, 3, 4, HUGE))
    shown = rng.choice((0, 0, 1, 1, 1, 2))
    text = rng.choice([[97]] * 12 + [[32, 126], [97] * 256, [], [31], [127], [97] * 257])
    answered = rng.choice((0, 0, rng.randrange(8), rng.randrange(60), HUGE))
    kinds = [found(p, shown)] + [invite(p, founder, number, q)] * 9 + [join(q, founder, number)] * 6
    kinds += [leave(p, founder, number)] + [out(p, founder, number, q)] * 2 + [past(p, founder, number, shown)] * 2
    kinds += [lift(p, founder, number, q)] * 2 + [say(p, founder, number, answered, text)] * 6
    return begin() if rng.random() < 0.002 else rng.choice(kinds)


class AgainstHistory(LineCase):
    def test_mixed_lists(self):
        met = {}
        for seed in range(60):
            rng = random.Random(seed)
            few = rng.choice((2, 3, 5, 16))
            # Some lists begin with a room that is nearly full, of people or of messages.
            calls = [found(0, seed % 2), found(1, 1)] + [invite(0, 0, 0, q) for q in range(1, few)]
            calls += [say(0, 0, 0)] * (126 if seed % 5 == 0 else 0) + [any_call(rng, few) for k in range(300)]
            done = []
            with self.subTest(seed=seed):
                told = self.ask(calls)
                for k, call in enumerate(calls):
                    self.assertEqual(told[k], wanted(done, call), (k, call))
                    met[(call[0], min(told[k], 0))] = True
        # Lists that never reach a refusal would compare nothing of it.
        reached = [(2, -22), (2, -2), (2, -1), (2, -17), (2, -28), (3, -22), (3, -2), (4, -22), (4, -2), (5, -22),
                   (5, -2), (5, -1), (5, -61), (6, -22), (6, -2), (6, -1), (6, -61), (6, -17), (7, -22), (7, -2),
                   (7, -1), (8, -22), (8, -2), (8, -61), (8, -28), (1, -22), (1, -28)]
        for pair in reached + [(number, 0) for number in range(9)]:
            self.assertIn(pair, met)


class WhatHolds(unittest.TestCase):
    def test_keepers_and_places(self):
        for seed in range(40):
            rng = random.Random(1000 + seed)
            house = House()
            house.begin()
            for k in range(300):
                call = any_call(rng, 5) if k > 1 else found(k, k)
                row = call[6:] if call[0] == 8 else []
                answer_to(house, call[0], call[1:5], row)
                for room in [room for mine in house.founded for room in mine]:
                    inside = [member.who for member in room.members]
                    self.assertEqual(len(set(inside + room.invited)), len(inside + room.invited))
                    self.assertLessEqual(len(inside + room.invited), 12)
                    self.assertEqual(bool(inside), any(member.keeper for member in room.members))


class OthersElsewhere(LineCase):
    def test_p_is_told_the_same_whatever_others_do_elsewhere(self):
        for seed in range(40):
            rng = random.Random(2000 + seed)
            mine = [found(0, 1), invite(0, 0, 0, 1), join(1, 0, 0)]
            mine += [call for call in (any_call(rng, 4) for k in range(120)) if call[0] > 1 and call[1] in (0, 1)]
            # 2 to 5 are busy in rooms of 5's, to which nobody asks 0 or 1.
            theirs = [found(5, 1), invite(5, 5, 0, 2), join(2, 5, 0), say(2, 5, 0), lift(5, 5, 0, 2), leave(5, 5, 0),
                      invite(2, 5, 0, 5), past(2, 5, 0, 0), out(2, 5, 0, 5), found(5, 0), leave(2, 5, 0)]
            mixed = []
            for call in mine:
                mixed.append((call, True))
                mixed.append((rng.choice(theirs), False))
            told = self.ask([call for call, own in mixed])
            with self.subTest(seed=seed):
                self.same([told[k] for k, pair in enumerate(mixed) if pair[1]], self.ask(mine))


if __name__ == "__main__":
    unittest.main()
