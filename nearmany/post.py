"""The post: letters that wait to be sent, and letters asked that are open."""

from nearmany.chance import Chance
from nearmany.letters import address_octets, letter_octets

MOST_OUTGOING = 256
LATE_AFTER = 1000
ANSWERING_KINDS = {0: (1,), 2: (3, 5), 4: (3, 5), 6: (7,)}


class Asked:
    def __init__(self, kind, mark, someone, since, of_search):
        self.kind = kind
        self.mark = mark
        self.name = someone.name
        self.address = someone.address
        self.since = since
        self.of_search = of_search

    def is_answered_by(self, letter, address):
        if letter.mark != self.mark or address != self.address or letter.sender != self.name:
            return False
        return letter.kind in ANSWERING_KINDS[self.kind]

    def is_late(self, now):
        return now - self.since >= LATE_AFTER


class Post:
    def __init__(self, own_name, seed):
        self.own_name = own_name
        self.chance = Chance(seed)
        self.outgoing = []
        self.unanswered = []

    def put(self, address, octets):
        if len(self.outgoing) < MOST_OUTGOING:
            self.outgoing.append((address, octets))

    # None where no letter waits to be sent.
    def first_with_address(self):
        if len(self.outgoing) == 0:
            return None
        return address_octets(self.outgoing[0][0]) + self.outgoing[0][1]

    def first_is_sent(self):
        self.outgoing.pop(0)

    # A letter that is lost for want of room is open all the same: it was asked.
    def ask(self, someone, kind, rest, now, of_search):
        mark = self.chance.draw()
        self.put(someone.address, letter_octets(kind, mark, self.own_name, rest))
        self.unanswered.append(Asked(kind, mark, someone, now, of_search))

    # None where the letter answers nothing.
    def close_answered(self, letter, address):
        for asked in list(self.unanswered):
            if asked.is_answered_by(letter, address):
                self.close(asked)
                return asked
        return None

    def close(self, asked):
        self.unanswered.remove(asked)

    # They were put in as they were asked, so the oldest comes first.
    def late_ones(self, now):
        return [asked for asked in self.unanswered if asked.is_late(now)]

    def leave_search(self):
        for asked in self.unanswered:
            asked.of_search = False
