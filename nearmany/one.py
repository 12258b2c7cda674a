"""One of many: the calls on it, letters that come to it, and its search."""

from nearmany.buckets import Buckets
from nearmany.letters import (
    ARE_YOU_THERE,
    I_AM_HERE,
    IT_IS_KEPT,
    KEEP_THIS,
    LONGEST_CONTENT,
    SOMEONE_OCTETS,
    THE_VALUE,
    THESE_ARE,
    VALUE_WANTED,
    WHO_IS_NEAR,
    content_octets,
    letter_octets,
    name_octets,
    people_octets,
    read_letter,
    someone_octets,
)
from nearmany.post import Post
from nearmany.search import Outcome, Search
from nearmany.shelf import Shelf

ADDRESSES = 0x1000000000000
LONGEST_LETTER = 1024
LONGEST_TIME = 10000000
MOST_OPEN = 64
MOST_ROOM = 4096
ASKING_KINDS = (0, 2, 4, 6)


# A most outside the range is as if there were no room at all.
def room_of(most):
    return most if most >= 1 and most <= MOST_ROOM else 0


def has_place(people, k):
    return k >= 0 and k < len(people)


# begin, own, know, come, time, ping, search and store give back their one number;
# result, value, send and near a list: the number, and what stands behind it.
class One:
    def __init__(self):
        self.become(0, 0)

    def become(self, name, seed):
        self.own_name = name
        self.now = 0
        self.buckets = Buckets(name)
        self.post = Post(name, seed)
        self.shelf = Shelf()
        # None where no search is going on, and where none is over.
        self.quest = None
        self.outcome = None

    def begin(self):
        self.become(0, 0)
        return 0

    def own(self, name, seed):
        self.become(name, seed)
        return 0

    def know(self, name, address):
        if address >= ADDRESSES or name == self.own_name:
            return -1
        self.buckets.heard(name, address)
        return 0

    def come(self, address, octets):
        if len(octets) < 1 or len(octets) > LONGEST_LETTER or address >= ADDRESSES:
            return -1
        letter = read_letter(octets)
        if letter is None or letter.sender == self.own_name:
            return 0
        if letter.kind in ASKING_KINDS:
            self.answer_letter(letter, address)
        else:
            self.take_answer(letter, address)
        return 1

    def time(self, milliseconds):
        if milliseconds < 0 or milliseconds > LONGEST_TIME:
            return -1
        self.now = self.now + milliseconds
        self.shelf.drop_old(self.now)
        for asked in self.post.late_ones(self.now):
            self.give_up(asked)
        return 0

    def ping(self, name):
        someone = self.buckets.known_by(name)
        if someone is None:
            return -1
        if self.has_most_open():
            return -2
        self.post.ask(someone, ARE_YOU_THERE, [], self.now, False)
        return 0

    def search(self, name, value):
        if self.quest is not None or self.has_most_open():
            return -2
        nearest = self.buckets.nearest(name)
        if len(nearest) == 0:
            return -3
        self.outcome = None
        self.quest = Search(name, value != 0, nearest)
        self.go_on()
        return 0

    def result(self, k):
        if self.outcome is None:
            return [-3]
        people = self.outcome.people
        if k == -1:
            return [len(people)] + [0] * SOMEONE_OCTETS
        if not has_place(people, k):
            return [-1]
        return [len(people)] + someone_octets(people[k])

    def value(self, most):
        if self.outcome is None or self.outcome.content is None:
            return [-3]
        content = self.outcome.content
        if len(content) > room_of(most):
            return [-2]
        return [len(content)] + content

    def store(self, name, key, content):
        someone = self.buckets.known_by(name)
        if len(content) > LONGEST_CONTENT or someone is None:
            return -1
        if self.has_most_open():
            return -2
        self.post.ask(someone, KEEP_THIS, name_octets(key) + content_octets(content), self.now, False)
        return 0

    def send(self, most):
        octets = self.post.first_with_address()
        if octets is None:
            return [-3]
        if len(octets) > room_of(most):
            return [-2]
        self.post.first_is_sent()
        return [len(octets)] + octets

    def near(self, name, k):
        people = self.buckets.nearest(name)
        if not has_place(people, k):
            return [-1]
        return [len(people)] + someone_octets(people[k])

    # A search may have opened more than that many.
    def has_most_open(self):
        return len(self.post.unanswered) >= MOST_OPEN

    # The answer is made first: it tells the nearest as they were before the sender was heard.
    def answer_letter(self, letter, address):
        octets = self.answer_to(letter)
        self.buckets.heard(letter.sender, address)
        self.post.put(address, octets)

    def answer_to(self, letter):
        if letter.kind == ARE_YOU_THERE:
            return letter_octets(I_AM_HERE, letter.mark, self.own_name, [])
        if letter.kind == KEEP_THIS:
            self.shelf.keep(letter.name, letter.content, self.now)
            return letter_octets(IT_IS_KEPT, letter.mark, self.own_name, [])
        content = self.shelf.content_of(letter.name)
        if letter.kind == VALUE_WANTED and content is not None:
            return letter_octets(THE_VALUE, letter.mark, self.own_name, content_octets(content))
        people = self.buckets.nearest(letter.name)
        return letter_octets(THESE_ARE, letter.mark, self.own_name, people_octets(people))

    def take_answer(self, letter, address):
        asked = self.post.close_answered(letter, address)
        if asked is None:
            return
        self.buckets.heard(letter.sender, address)
        if asked.of_search:
            self.search_with(letter)

    def give_up(self, asked):
        self.post.close(asked)
        self.buckets.silent(asked.name, asked.address)
        if asked.of_search:
            self.quest.has_been_silent(asked.name)
            self.go_on()

    def search_with(self, letter):
        self.quest.has_answered(letter.sender)
        if letter.kind == THE_VALUE and self.quest.for_value:
            self.end_search(Outcome([], letter.content))
            return
        for someone in letter.people:
            if someone.name != self.own_name:
                self.quest.find_one(someone)
        self.go_on()

    def go_on(self):
        kind = VALUE_WANTED if self.quest.for_value else WHO_IS_NEAR
        found = self.quest.take_one_to_ask()
        while found is not None:
            self.post.ask(found, kind, name_octets(self.quest.name), self.now, True)
            found = self.quest.take_one_to_ask()
        if self.quest.how_many_asked() == 0:
            self.end_search(Outcome(self.quest.counted(), None))

    def end_search(self, outcome):
        self.quest = None
        self.outcome = outcome
        self.post.leave_search()
