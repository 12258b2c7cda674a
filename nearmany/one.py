"""One of many: the calls on it, letters that come to it, and its search."""

from nearmany.buckets import Buckets
from nearmany.letters import (
    ARE_YOU_THERE,
    I_AM_HERE,
    IT_IS_KEPT,
    KEEP_THIS,
    THE_VALUE,
    THESE_ARE,
    VALUE_WANTED,
    WHO_IS_NEAR,
    content_octets,
    letter_octets,
    name_octets,
    people_octets,
    read_letter,
)
from nearmany.post import Post
from nearmany.search import Outcome
from nearmany.shelf import Shelf

ADDRESSES = 0x1000000000000
LONGEST_LETTER = 1024
LONGEST_TIME = 10000000
MOST_OPEN = 64
ASKING_KINDS = (0, 2, 4, 6)


class One:
    def __init__(self):
        self.become(0, 0)

    def become(self, name, seed):
        self.own_name = name
        self.now = 0
        self.buckets = Buckets(name)
        self.post = Post(name, seed)
        self.shelf = Shelf()
        # None where no search is going on, and where none is over.
        self.quest = None
        self.outcome = None

    def begin(self):
        self.become(0, 0)
        return 0

    def own(self, name, seed):
        self.become(name, seed)
        return 0

    def know(self, name, address):
        if address >= ADDRESSES or name == self.own_name:
            return -1
        self.buckets.heard(name, address)
        return 0

    def come(self, address, octets):
        if len(octets) < 1 or len(octets) > LONGEST_LETTER or address >= ADDRESSES:
            return -1
        letter = read_letter(octets)
        if letter is None or letter.sender == self.own_name:
            return 0
        if letter.kind in ASKING_KINDS:
            self.answer_letter(letter, address)
        else:
            self.take_answer(letter, address)
        return 1

    def time(self, milliseconds):
        if milliseconds < 0 or milliseconds > LONGEST_TIME:
            return -1
        self.now = self.now + milliseconds
        self.shelf.drop_old(self.now)
        for asked in self.post.late_ones(self.now):
            self.give_up(asked)
        return 0

    def ping(self, name):
        someone = self.buckets.known_by(name)
        if someone is None:
            return -1
        # A search may have opened more than that many.
        if len(self.post.unanswered) >= MOST_OPEN:
            return -2
        self.post.ask(someone, ARE_YOU_THERE, [], self.now, False)
        return 0

    # The answer is made first: it tells the nearest as they were before the sender was heard.
    def answer_letter(self, letter, address):
        octets = self.answer_to(letter)
        self.buckets.heard(letter.sender, address)
        self.post.put(address, octets)

    def answer_to(self, letter):
        if letter.kind == ARE_YOU_THERE:
            return letter_octets(I_AM_HERE, letter.mark, self.own_name, [])
        if letter.kind == KEEP_THIS:
            self.shelf.keep(letter.name, letter.content, self.now)
            return letter_octets(IT_IS_KEPT, letter.mark, self.own_name, [])
        content = self.shelf.content_of(letter.name)
        if letter.kind == VALUE_WANTED and content is not None:
            return letter_octets(THE_VALUE, letter.mark, self.own_name, content_octets(content))
        people = self.buckets.nearest(letter.name)
        return letter_octets(THESE_ARE, letter.mark, self.own_name, people_octets(people))

    def take_answer(self, letter, address):
        asked = self.post.close_answered(letter, address)
        if asked is None:
            return
        self.buckets.heard(letter.sender, address)
        if asked.of_search:
            self.search_with(letter)

    def give_up(self, asked):
        self.post.close(asked)
        self.buckets.silent(asked.name, asked.address)
        if asked.of_search:
            self.quest.has_been_silent(asked.name)
            self.go_on()

    def search_with(self, letter):
        self.quest.has_answered(letter.sender)
        if letter.kind == THE_VALUE and self.quest.for_value:
            self.end_search(Outcome([], letter.content))
            return
        for someone in letter.people:
            if someone.name != self.own_name:
                self.quest.find_one(someone)
        self.go_on()

    def go_on(self):
        kind = VALUE_WANTED if self.quest.for_value else WHO_IS_NEAR
        found = self.quest.take_one_to_ask()
        while found is not None:
            self.post.ask(found, kind, name_octets(self.quest.name), self.now, True)
            found = self.quest.take_one_to_ask()
        if self.quest.how_many_asked() == 0:
            self.end_search(Outcome(self.quest.counted(), None))

    def end_search(self, outcome):
        self.quest = None
        self.outcome = outcome
        self.post.leave_search()
