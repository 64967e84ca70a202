"""The calls by which one reads what was said. Each p is in the room: that has been checked before."""

from talkrooms.refusals import NOT_THERE


def seen(room, p, m):
    if room.seen_message(p, m) is None:
        return NOT_THERE
    member = room.find_member(p)
    member.read = m + 1
    return 0


def read(room, p, m):
    """All numbers that are answered."""
    message = room.seen_message(p, m)
    if message is None:
        return [NOT_THERE]
    counts = [len(markers) for markers in message.marks]
    gone = 1 if message.gone else 0
    return [0] + counts + [message.who, message.answered, message.changes, gone] + message.text


def unread(room, p):
    # One never has read less than what one doesn't see, so nothing unseen is counted.
    behind = room.messages[room.find_member(p).read:]
    return len([message for message in behind if message.who != p and not message.gone])
