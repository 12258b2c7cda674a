"""A search: those found, by nearness, and how far one is with each."""

NOT_ASKED = 0
ASKED = 1
ANSWERED = 2
SILENT = 3

MOST_COUNTED = 8
MOST_ASKED = 3
MOST_FOUND = 64


class Found:
    def __init__(self, name, address):
        self.name = name
        self.address = address
        self.state = NOT_ASKED


# What a search that is over has come to; content is None where it found no value.
class Outcome:
    def __init__(self, people, content):
        self.people = people
        self.content = content


class Search:
    def __init__(self, name, for_value, nearest):
        self.name = name
        self.for_value = for_value
        self.found = []
        for someone in nearest:
            self.find_one(someone)

    def find_one(self, someone):
        if len(self.found) >= MOST_FOUND or self.found_by(someone.name) is not None:
            return
        self.found.append(Found(someone.name, someone.address))
        self.found = sorted(self.found, key=lambda other: other.name ^ self.name)

    def found_by(self, name):
        for other in self.found:
            if other.name == name:
                return other
        return None

    def counted(self):
        return [other for other in self.found if other.state != SILENT][:MOST_COUNTED]

    def how_many_asked(self):
        return len([other for other in self.found if other.state == ASKED])

    # None where nobody is to be asked for now.
    def take_one_to_ask(self):
        if self.how_many_asked() >= MOST_ASKED:
            return None
        for other in self.counted():
            if other.state == NOT_ASKED:
                other.state = ASKED
                return other
        return None

    def has_answered(self, name):
        other = self.found_by(name)
        other.state = ANSWERED

    def has_been_silent(self, name):
        other = self.found_by(name)
        other.state = SILENT
