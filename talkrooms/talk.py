"""The calls by which messages come about. Each p is in the room: that has been checked before."""

from talkrooms.refusals import FULL, NOT_THERE
from talkrooms.rooms import Message

LONGEST_TEXT = 256
FIRST_BYTE = 32
LAST_BYTE = 126
MOST_MESSAGES = 128


def is_text(text):
    if len(text) < 1 or len(text) > LONGEST_TEXT:
        return False
    return all([FIRST_BYTE <= byte and byte <= LAST_BYTE for byte in text])


def may_answer(room, p, answered):
    if answered == 0:
        return True
    message = room.seen_message(p, answered - 1)
    return message is not None and not message.gone


def say(room, p, answered, text):
    if not may_answer(room, p, answered):
        return NOT_THERE
    if len(room.messages) >= MOST_MESSAGES:
        return FULL
    room.messages.append(Message(p, text, answered))
    return len(room.messages) - 1
