"""The calls that tell the k-th of many: rooms, people, and messages with a word.

Each answers 1 and what it tells, or 0 alone where there aren't so many.
"""

from talkrooms.texts import word_key


def kth_room(house, p, k):
    theirs = [row for row in house.all_rooms() if row[2].has_or_awaits(p)]
    if k >= len(theirs):
        return [0]
    row = theirs[k]
    return [1, row[0], row[1]] + standing_in(row[2], p)


def standing_in(room, p):
    """How p, in the room or invited, stands there, and how many messages that lets p know of."""
    if room.is_invited(p):
        return [0, 0]
    return [2 if room.is_keeper(p) else 1, len(room.messages)]


def kth_person(room, k):
    if k >= len(room.members):
        return [0]
    member = room.members[k]
    return [1, member.who, 1 if member.keeper else 0]


def kth_found(house, p, word, k):
    key = word_key(word)
    left = k
    for founder, number, room in house.all_rooms():
        hits = seen_with_word(room, p, key)
        if left < len(hits):
            return [1, founder, number, hits[left]]
        left = left - len(hits)
    return [0]


def seen_with_word(room, p, key):
    """The numbers of the messages that p sees in the room, if in it, and that have the word."""
    member = room.find_member(p)
    if member is None:
        return []
    messages = room.messages
    return [m for m in range(member.first, len(messages)) if key in messages[m].words]
