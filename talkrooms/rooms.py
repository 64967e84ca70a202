"""What is kept of rooms: who is in them, who is invited, and what was said there."""

from talkrooms.texts import words_of

PEOPLE = 16
KINDS = 16


class Message:
    """What somebody said. answered is one more than the number of what it answers, or 0.

    Of each kind of mark stands who has set it.
    """

    def __init__(self, who, text, answered):
        self.who = who
        self.answered = answered
        self.changes = 0
        self.gone = False
        self.text = text
        self.words = words_of(text)
        self.marks = [[] for kind in range(KINDS)]

    def put_text(self, text):
        """The words go with the text, so that nothing finds a message by what it said before."""
        self.text = text
        self.words = words_of(text)

    def take_away(self):
        self.gone = True
        self.put_text([])
        self.marks = [[] for kind in range(KINDS)]


class Member:
    """Somebody in a room, who sees its messages from first on and has read those before read."""

    def __init__(self, who, keeper, first):
        self.who = who
        self.keeper = keeper
        self.first = first
        # What one doesn't see counts as read, so both begin at the same number.
        self.read = first


class Room:
    """A room. Its members stand in the order in which they joined."""

    def __init__(self, past):
        self.past = past
        self.members = []
        self.invited = []
        self.messages = []

    def find_member(self, p):
        for member in self.members:
            if member.who == p:
                return member
        return None

    def is_keeper(self, p):
        member = self.find_member(p)
        return member is not None and member.keeper

    def is_invited(self, p):
        return p in self.invited

    def has_or_awaits(self, p):
        return self.is_invited(p) or self.find_member(p) is not None

    def enter(self, p):
        first = 0 if self.past == 1 else len(self.messages)
        keeper = len(self.members) == 0
        self.forget(p)
        self.members.append(Member(p, keeper, first))

    def forget(self, p):
        """Afterwards p is neither in the room nor invited."""
        self.members = [member for member in self.members if member.who != p]
        self.invited = [who for who in self.invited if who != p]

    def seen_message(self, p, m):
        """Message m, or None where there is none that p, who is in the room, sees."""
        if m >= len(self.messages) or m < self.find_member(p).first:
            return None
        return self.messages[m]

    def standing_message(self, p, m):
        """Message m, or None where p sees none or it is gone."""
        message = self.seen_message(p, m)
        if message is None or message.gone:
            return None
        return message


class House:
    """All rooms: for each of the people those that they founded, by their numbers."""

    def __init__(self):
        self.founded = []
        self.begin()

    def begin(self):
        self.founded = [[] for founder in range(PEOPLE)]

    def find_room(self, founder, number):
        if founder >= PEOPLE or number >= len(self.founded[founder]):
            return None
        return self.founded[founder][number]

    def all_rooms(self):
        """Founder, number and room of each, by founders, then numbers."""
        rows = []
        for founder, theirs in enumerate(self.founded):
            for number, room in enumerate(theirs):
                rows.append((founder, number, room))
        return rows
