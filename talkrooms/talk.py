"""The calls by which messages come about, change and go. Each p is in the room: that has been checked before."""

from talkrooms.refusals import FULL, NOT_ALLOWED, NOT_THERE
from talkrooms.rooms import Message

MOST_MESSAGES = 128
MOST_CHANGES = 255


def say(room, p, answered, text):
    if answered > 0 and room.standing_message(p, answered - 1) is None:
        return NOT_THERE
    if len(room.messages) >= MOST_MESSAGES:
        return FULL
    room.messages.append(Message(p, text, answered))
    return len(room.messages) - 1


def change(room, p, m, text):
    message = room.standing_message(p, m)
    if message is None:
        return NOT_THERE
    if message.who != p:
        return NOT_ALLOWED
    if message.changes >= MOST_CHANGES:
        return FULL
    message.put_text(text)
    message.changes = message.changes + 1
    return 0


def remove(room, p, m):
    message = room.standing_message(p, m)
    if message is None:
        return NOT_THERE
    if message.who != p and not room.is_keeper(p):
        return NOT_ALLOWED
    message.take_away()
    return 0


def mark(room, p, m, kind):
    message = room.standing_message(p, m)
    if message is None:
        return NOT_THERE
    markers = message.marks[kind]
    if p in markers:
        markers.remove(p)
        return 0
    markers.append(p)
    return 1
