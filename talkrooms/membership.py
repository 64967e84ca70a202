"""The calls by which rooms are founded, and people come into them, go, and keep them.

Each p is one of the people and, but for found and join, in the room: that has been checked before.
"""

from talkrooms.refusals import ALREADY_SO, FULL, NOT_ALLOWED, NOT_THERE, UNKNOWN_ROOM
from talkrooms.rooms import Room

ROOMS_OF_ONE_FOUNDER = 4
PLACES = 12


def found(house, p, past):
    mine = house.founded[p]
    if len(mine) >= ROOMS_OF_ONE_FOUNDER:
        return FULL
    room = Room(past)
    room.enter(p)
    mine.append(room)
    return len(mine) - 1


def invite(room, p, q):
    if not room.is_keeper(p):
        return NOT_ALLOWED
    if room.has_or_awaits(q):
        return ALREADY_SO
    if len(room.members) + len(room.invited) >= PLACES:
        return FULL
    room.invited.append(q)
    return 0


def join(room, p):
    # Who isn't invited is told the same as if there were no such room.
    if not room.is_invited(p):
        return UNKNOWN_ROOM
    room.enter(p)
    return 0


def leave(room, p):
    room.forget(p)
    if len(room.members) > 0 and not any([member.keeper for member in room.members]):
        heir = room.members[0]
        heir.keeper = True
    return 0


def put_out(room, p, q):
    if not room.is_keeper(p):
        return NOT_ALLOWED
    if q == p or not room.has_or_awaits(q):
        return NOT_THERE
    room.forget(q)
    return 0


def lift(room, p, q):
    if not room.is_keeper(p):
        return NOT_ALLOWED
    member = room.find_member(q)
    if member is None:
        return NOT_THERE
    if member.keeper:
        return ALREADY_SO
    member.keeper = True
    return 0


def show_past(room, p, past):
    if not room.is_keeper(p):
        return NOT_ALLOWED
    room.past = past
    return 0
