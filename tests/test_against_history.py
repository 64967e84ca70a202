"""Long mixed lists, compared with a second telling of points 1 to 10.

The second telling keeps nothing but what was done, and works out anew, whenever it is asked, how things stand.
"""

import random
import re
import unittest

from tests.lines import (HUGE, LineCase, begin, change, find, found, gone, invite, join, leave, lift, mark, message,
                         out, past, people, read, remove, rooms, say, seen, unread)

DEEDS = {2: "invite", 3: "join", 4: "leave", 5: "out", 6: "lift", 7: "past", 8: "say", 9: "change", 10: "remove",
         11: "mark", 12: "seen"}
TEXTS = (b"a", b"a", b"A b", b"b, c.", b"ab", b"--", b"B2 a", bytes([32, 126]), b"c" * 256)
NO_TEXTS = (b"", b"\x1f", b"a\x7f", b"a" * 257)
WORDS = (b"a", b"a", b"B", b"c", b"ab", b"b2", b"c" * 32)
NO_WORDS = (b"c" * 33, b"", b"a b", b"\xe4")


def come_and_go(now, what, p, q):
    """What the calls of points 2 and 3 do to a room."""
    if what == "invite":
        now["asked"].add(q)
    elif what == "join":
        now["asked"].discard(p)
        now["keep"] |= set() if now["in"] else {p}
        now["in"][p] = 0 if now["past"] else len(now["said"])
        now["read"][p] = now["in"][p]
    elif what == "lift":
        now["keep"].add(q)
    elif what == "past":
        now["past"] = q
    elif what in ("leave", "out"):
        now["asked"].discard(q)
        now["keep"].discard(q)
        now["in"].pop(q, None)
        if now["in"] and not now["keep"]:
            now["keep"].add(next(iter(now["in"])))


def speak(now, what, p, m, rest):
    """What the calls of points 4 to 6 do to a room."""
    if what == "say":
        now["said"].append({"by": p, "text": bytes(rest), "re": m, "changed": 0, "marks": set()})
    elif what == "change":
        now["said"][m]["text"] = bytes(rest)
        now["said"][m]["changed"] += 1
    elif what == "remove":
        now["said"][m]["text"] = b""
        now["said"][m]["marks"] = set()
    elif what == "mark":
        now["said"][m]["marks"] ^= {(p, rest[0])}
    elif what == "seen":
        now["read"][p] = m + 1


def state(done, room):
    """How a room stands after what was done; None if it was never founded."""
    now = None
    for what, where, p, q, rest in done:
        if where != room:
            continue
        if what == "found":
            now = {"in": {p: 0}, "read": {p: 0}, "keep": {p}, "asked": set(), "past": q, "said": []}
        else:
            come_and_go(now, what, p, q)
            speak(now, what, p, q, rest)
    return now


def first_of(*cases):
    return next((number for number, holds in cases if holds()), None)


def no_text(text):
    return not re.fullmatch(rb"[ -~]{1,256}", bytes(text))


def sees(now, p, m):
    return now["in"][p] <= m < len(now["said"])


def stands(now, p, m):
    return sees(now, p, m) and now["said"][m]["text"] != b""


def has_word(text, word):
    return bytes(word).lower() in re.findall(rb"[a-z0-9]+", text.lower())


def kth(rows, k):
    return [1] + rows[k] if k < len(rows) else 0


def founded(done):
    return sorted({where for what, where, p, q, rest in done})


def wanted_of_found(done, p, shown):
    mine = len([1 for deed in done if deed[0] == "found" and deed[1][0] == p])
    no = first_of((-22, lambda: p > 15 or shown > 1), (-28, lambda: mine == 4))
    if no is None:
        done.append(("found", (p, mine), p, shown, []))
    return mine if no is None else no


def wanted_of_rooms(done, p, k):
    if p > 15:
        return -22
    rows = []
    for founder, number in founded(done):
        now = state(done, (founder, number))
        if p in now["asked"]:
            rows.append([founder, number, 0, 0])
        elif p in now["in"]:
            rows.append([founder, number, 2 if p in now["keep"] else 1, len(now["said"])])
    return kth(rows, k)


def wanted_of_find(done, p, k, word):
    if p > 15 or not re.fullmatch(rb"[A-Za-z0-9]{1,32}", bytes(word)):
        return -22
    rows = []
    for founder, number in founded(done):
        now = state(done, (founder, number))
        if p in now["in"]:
            rows += [[founder, number, m] for m, one in enumerate(now["said"])
                     if sees(now, p, m) and has_word(one["text"], word)]
    return kth(rows, k)


def refusals(now, number, p, q, rest):
    """For each call of a room, what is refused and when, in their order."""
    above = (-22, lambda: p > 15)
    both_above = (-22, lambda: p > 15 or q > 15)
    absent = (-2, lambda: now is None or p not in now["in"])
    no_keeper = (-1, lambda: p not in now["keep"])
    fallen = (-61, lambda: not stands(now, p, q))
    unseen = (-61, lambda: not sees(now, p, q))
    no_own_text = (-22, lambda: p > 15 or no_text(rest))
    return {
        2: (both_above, absent, no_keeper, (-17, lambda: q in now["in"] or q in now["asked"]),
            (-28, lambda: len(now["in"]) + len(now["asked"]) == 12)),
        3: (above, (-2, lambda: now is None or p not in now["asked"])),
        4: (above, absent),
        5: (both_above, absent, no_keeper, (-61, lambda: q == p or (q not in now["in"] and q not in now["asked"]))),
        6: (both_above, absent, no_keeper, (-61, lambda: q not in now["in"]), (-17, lambda: q in now["keep"])),
        7: ((-22, lambda: p > 15 or q > 1), absent, no_keeper),
        8: (no_own_text, absent, (-61, lambda: q != 0 and not stands(now, p, q - 1)),
            (-28, lambda: len(now["said"]) == 128)),
        9: (no_own_text, absent, fallen, (-1, lambda: now["said"][q]["by"] != p),
            (-28, lambda: now["said"][q]["changed"] == 255)),
        10: (above, absent, fallen, (-1, lambda: now["said"][q]["by"] != p and p not in now["keep"])),
        11: ((-22, lambda: p > 15 or rest[0] > 15), absent, fallen),
        12: (above, absent, unseen),
        13: (above, absent, unseen),
        14: (above, absent),
        16: (above, absent),
    }[number]


def wanted_of_read(one):
    if one["text"] == b"":
        return gone(one["by"], one["re"], one["changed"])
    counts = [(kind, len([1 for p, other in one["marks"] if other == kind])) for kind in range(16)]
    return message(one["by"], one["text"], one["re"], one["changed"], counts)


def wanted_in_room(now, number, p, q, rest):
    """What a call answers that isn't refused."""
    if number == 8:
        return len(now["said"])
    if number == 11:
        return 0 if (p, rest[0]) in now["said"][q]["marks"] else 1
    if number == 13:
        return wanted_of_read(now["said"][q])
    if number == 14:
        return len([1 for m, one in enumerate(now["said"])
                    if sees(now, p, m) and m >= now["read"][p] and one["by"] != p and one["text"] != b""])
    if number == 16:
        return kth([[who, int(who in now["keep"])] for who in now["in"]], q)
    return 0


def wanted(done, call):
    """What the call answers; what it does is put behind done."""
    number, given = call[0], call[1:]
    if number == 0:
        done.clear()
        return 0
    p = given[0]
    if number == 1:
        return wanted_of_found(done, p, given[1])
    if number == 15:
        return wanted_of_rooms(done, p, given[1])
    if number == 17:
        return wanted_of_find(done, p, given[1], given[3:])
    room = (given[1], given[2])
    q = given[3] if len(given) > 3 else p
    rest = given[4:] if number == 11 else given[5:]
    now = state(done, room)
    no = first_of(*refusals(now, number, p, q, rest))
    if no is not None:
        return no
    if number in DEEDS:
        done.append((DEEDS[number], room, p, q, rest))
    return wanted_in_room(now, number, p, q, rest)


def person(rng, few):
    return rng.choice((15, 16, 17, HUGE)) if rng.random() < 0.02 else rng.randrange(few)


def seldom(rng, usual, wrong):
    return rng.choice(wrong) if rng.random() < 0.05 else rng.choice(usual)


def any_call(rng, few):
    """A call by one of the first few people, now and then with something wrong in it."""
    if rng.random() < 0.001:
        return begin()
    p, q = person(rng, few), person(rng, few)
    room = seldom(rng, ((0, 0), (0, 0), (0, 0), (1, 0)),
                  ((0, 1), (1, 1), (2, 0), (0, 4), (16, 0), (0, HUGE), (HUGE, 0)))
    shown = seldom(rng, (0, 1), (2, HUGE))
    m = rng.choice((rng.randrange(3), rng.randrange(6), rng.randrange(6), rng.randrange(20), rng.randrange(135), HUGE))
    kind = seldom(rng, (0, 0, 1, 15), (16, HUGE))
    k = rng.choice((0, 0, 0, 1, 1, 2, 3, 5, 12, HUGE))
    text, word = seldom(rng, TEXTS, NO_TEXTS), seldom(rng, WORDS, NO_WORDS)
    kinds = [found(p, shown)] * 2 + [invite(p, *room, q)] * 10 + [join(q, *room)] * 8 + [leave(p, *room)]
    kinds += [out(p, *room, q)] * 2 + [past(p, *room, shown)] * 2 + [lift(p, *room, q)] * 3
    kinds += [say(p, *room, rng.choice((0, 0, m)), text)] * 9 + [change(p, *room, m, text)] * 9
    kinds += [remove(p, *room, m)] * 3 + [mark(p, *room, m, kind)] * 12 + [seen(p, *room, m)] * 5
    kinds += [read(p, *room, m)] * 12 + [unread(p, *room)] * 6 + [rooms(p, k)] * 4 + [people(p, *room, k)] * 5
    return rng.choice(kinds + [find(p, word, k)] * 9)


def reached():
    """Each call with each refusal that it has, and with 0 for being taken."""
    refused = {1: (-22, -28), 2: (-22, -2, -1, -17, -28), 3: (-22, -2), 4: (-22, -2), 5: (-22, -2, -1, -61),
               6: (-22, -2, -1, -61, -17), 7: (-22, -2, -1), 8: (-22, -2, -61, -28), 9: (-22, -2, -61, -1, -28),
               10: (-22, -2, -61, -1), 11: (-22, -2, -61), 12: (-22, -2, -61), 13: (-22, -2, -61), 14: (-22, -2),
               15: (-22,), 16: (-22, -2), 17: (-22,)}
    return [(number, no) for number in refused for no in refused[number]] + [(number, 0) for number in range(18)]


class AgainstHistory(LineCase):
    def test_mixed_lists(self):
        met = {}
        for seed in range(60):
            rng = random.Random(seed)
            few = rng.choice((2, 3, 5, 5, 16))
            # Some lists begin with a room that is nearly full, or a message that was changed nearly too often.
            calls = [found(0, seed % 2), found(1, 1)] + [invite(0, 0, 0, q) for q in range(1, few)]
            calls += [say(0, 0, 0)] * (126 if seed % 5 == 0 else 1)
            calls += [change(0, 0, 0, 0)] * (254 if seed % 4 == 1 else 0) + [any_call(rng, few) for k in range(300)]
            done = []
            with self.subTest(seed=seed):
                told = self.ask(calls)
                for k, call in enumerate(calls):
                    self.assertEqual(told[k], wanted(done, call), (k, call))
                    met[(call[0], min(told[k], 0) if isinstance(told[k], int) else 0)] = True
        # Lists that never reach a refusal would compare nothing of it.
        for pair in reached():
            self.assertIn(pair, met)


if __name__ == "__main__":
    unittest.main()
