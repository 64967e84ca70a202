"""A list of calls, taken one behind another, and all that they answer."""

from talkrooms.membership import found, invite, join, leave, lift, put_out, show_past
from talkrooms.refusals import INVALID, UNKNOWN_ROOM
from talkrooms.rooms import House, PEOPLE
from talkrooms.talk import is_text, say

BEGIN = 0
FOUND = 1
INVITE = 2
JOIN = 3
LEAVE = 4
OUT = 5
LIFT = 6
PAST = 7
SAY = 8

# How many whole numbers stand behind each call's own, ahead of its row.
NUMBERS = (0, 2, 4, 3, 3, 4, 4, 4, 4)


def answers(calls):
    house = House()
    told = []
    place = 0
    while place < len(calls):
        call = calls[place]
        behind = place + 1 + NUMBERS[call]
        given = calls[place + 1:behind]
        text = []
        if call == SAY:
            text = calls[behind + 1:behind + 1 + calls[behind]]
            behind = behind + 1 + len(text)
        told.append(1)
        told.append(answer_to(house, call, given, text))
        place = behind
    return told


def answer_to(house, call, given, text):
    """The refusals that calls share stand here, so that their order is the same for all."""
    if call == BEGIN:
        house.begin()
        return 0
    if is_invalid(call, given, text):
        return INVALID
    if call == FOUND:
        return found(house, given[0], given[1])
    room = house.find_room(given[1], given[2])
    if room is None:
        return UNKNOWN_ROOM
    if call == JOIN:
        return join(room, given[0])
    if room.find_member(given[0]) is None:
        return UNKNOWN_ROOM
    return answer_within(room, call, given, text)


def is_invalid(call, given, text):
    if given[0] >= PEOPLE:
        return True
    if call == FOUND:
        return given[1] > 1
    if call == PAST:
        return given[3] > 1
    if call == SAY:
        return not is_text(text)
    if call == INVITE or call == OUT or call == LIFT:
        return given[3] >= PEOPLE
    return False


def answer_within(room, call, given, text):
    """What a call answers whose p is in the room."""
    p = given[0]
    if call == LEAVE:
        return leave(room, p)
    if call == INVITE:
        return invite(room, p, given[3])
    if call == OUT:
        return put_out(room, p, given[3])
    if call == LIFT:
        return lift(room, p, given[3])
    if call == PAST:
        return show_past(room, p, given[3])
    return say(room, p, given[3], text)
