"""A list of calls, taken one behind another, and all that they answer."""

from talkrooms.listing import kth_found, kth_person, kth_room
from talkrooms.membership import found, invite, join, leave, lift, put_out, show_past
from talkrooms.reading import read, seen, unread
from talkrooms.refusals import INVALID, UNKNOWN_ROOM
from talkrooms.rooms import House, KINDS, PEOPLE
from talkrooms.talk import change, mark, remove, say
from talkrooms.texts import is_text, is_word

BEGIN = 0
FOUND = 1
INVITE = 2
JOIN = 3
LEAVE = 4
OUT = 5
LIFT = 6
PAST = 7
SAY = 8
CHANGE = 9
REMOVE = 10
MARK = 11
SEEN = 12
READ = 13
UNREAD = 14
KTH_ROOM = 15
KTH_PERSON = 16
FIND = 17

# How many whole numbers stand behind each call's own, ahead of its row.
NUMBERS = (0, 2, 4, 3, 3, 4, 4, 4, 4, 4, 4, 5, 4, 4, 3, 2, 4, 2)


def answers(calls):
    house = House()
    told = []
    place = 0
    while place < len(calls):
        call = calls[place]
        behind = place + 1 + NUMBERS[call]
        given = calls[place + 1:behind]
        row = []
        if call == SAY or call == CHANGE or call == FIND:
            row = calls[behind + 1:behind + 1 + calls[behind]]
            behind = behind + 1 + len(row)
        answer = answer_to(house, call, given, row)
        told.append(len(answer))
        told.extend(answer)
        place = behind
    return told


def answer_to(house, call, given, row):
    """All numbers that a call answers; row is the text or the word that it is handed, if one.

    The refusals that calls share stand here and in answer_in_room, so that their order is the same for all.
    """
    if call == BEGIN:
        house.begin()
        return [0]
    if is_invalid(call, given, row):
        return [INVALID]
    if call == FOUND:
        return [found(house, given[0], given[1])]
    if call == KTH_ROOM:
        return kth_room(house, given[0], given[1])
    if call == FIND:
        return kth_found(house, given[0], row, given[1])
    return answer_in_room(house, call, given, row)


def is_invalid(call, given, row):
    if given[0] >= PEOPLE:
        return True
    if call == FOUND:
        return given[1] > 1
    if call == PAST:
        return given[3] > 1
    if call == SAY or call == CHANGE:
        return not is_text(row)
    if call == FIND:
        return not is_word(row)
    if call == MARK:
        return given[4] >= KINDS
    if call == INVITE or call == OUT or call == LIFT:
        return given[3] >= PEOPLE
    return False


def answer_in_room(house, call, given, row):
    """What a call answers that has founder and number."""
    p = given[0]
    room = house.find_room(given[1], given[2])
    if room is None:
        return [UNKNOWN_ROOM]
    if call == JOIN:
        return [join(room, p)]
    if room.find_member(p) is None:
        return [UNKNOWN_ROOM]
    if call == READ:
        return read(room, p, given[3])
    if call == KTH_PERSON:
        return kth_person(room, given[3])
    if call == LEAVE:
        return [leave(room, p)]
    if call == UNREAD:
        return [unread(room, p)]
    if call == INVITE or call == OUT or call == LIFT or call == PAST:
        return [answer_of_keeper(room, call, p, given[3])]
    if call == MARK:
        return [mark(room, p, given[3], given[4])]
    return [answer_on_message(room, call, p, given[3], row)]


def answer_of_keeper(room, call, p, value):
    """The one number that is answered to a call that keepers alone may make; value is its last number."""
    if call == INVITE:
        return invite(room, p, value)
    if call == OUT:
        return put_out(room, p, value)
    if call == LIFT:
        return lift(room, p, value)
    return show_past(room, p, value)


def answer_on_message(room, call, p, m, row):
    """The one number that is answered to say, change, remove or seen; m is its last number."""
    if call == SAY:
        return say(room, p, m, row)
    if call == CHANGE:
        return change(room, p, m, row)
    if call == REMOVE:
        return remove(room, p, m)
    return seen(room, p, m)
