"""Long lists of calls, made by a rule: the same number always makes the same list.

What is called next is chosen by what the reckoner holds then, so that letters are answered, edges met, and refusals
drawn; the program has no part in it.
"""

from tests.reckoner import CALLS, Reckoner, short

MOST_CALLS = 300
MOST_NUMBERS = 16131
HIGHEST = 2**31 - 1
LOWEST = -(2**31)

# How often each call is made, of how many letters that come are right answers, questions, and none of these,
# and how many names there are, in how many buckets.
EVEN = {"know": 4, "come": 14, "time": 4, "ping": 4, "search": 3, "result": 4, "value": 2, "store": 2, "send": 16,
        "near": 4}
MOODS = (
    {"calls": {**EVEN, "begin": 0.1, "own": 0.1}, "letters": (4, 4, 2), "names": 40, "buckets": 6},
    {"calls": {**EVEN, "come": 40, "time": 3, "search": 8, "result": 6}, "letters": (9, 1, 1), "names": 150,
     "buckets": 20, "little_time": True},
    {"calls": {"know": 16, "come": 6, "time": 12, "ping": 20, "near": 14, "send": 9, "search": 2, "store": 2},
     "letters": (3, 4, 1), "names": 30, "buckets": 2},
    {"calls": {"come": 40, "time": 1, "send": 30, "near": 1, "know": 1}, "letters": (0, 20, 1), "names": 250,
     "buckets": 5, "kinds": (6, 6, 6, 6, 4), "short": True, "no_send_till": 170, "little_time": True},
    {"calls": {"come": 60, "send": 2, "ping": 1, "store": 1, "near": 1, "search": 1}, "letters": (1, 30, 1),
     "names": 20, "buckets": 4, "kinds": (0,), "short": True, "no_send_till": 265, "little_time": True},
    {"calls": {"know": 3, "ping": 30, "store": 8, "search": 10, "come": 14, "result": 3, "value": 3, "send": 14,
               "time": 0.6}, "letters": (6, 1, 1), "names": 30, "buckets": 3, "short": True, "little_time": True},
    {"calls": {**EVEN, "come": 26, "search": 8, "result": 5, "value": 8}, "letters": (8, 2, 1), "names": 25,
     "buckets": 8, "for_value": True},
    {"calls": {**EVEN, "come": 30, "time": 3, "search": 8, "result": 6, "near": 1}, "letters": (30, 1, 1),
     "names": 30, "buckets": 4, "little_time": True, "ever_nearer": True},
)


class Dice:
    def __init__(self, number):
        self.state = number * 2 + 1
        for k in range(8):
            self.below(2)

    def below(self, limit):
        self.state = (self.state * 6364136223846793005 + 1442695040888963407) % 2**64
        return (self.state >> 24) % limit

    def one_of(self, things):
        return things[self.below(len(things))]

    def once_in(self, how_many):
        return self.below(how_many) == 0

    def weighted(self, weights):
        """One of the keys, as often as its weight says, to a tenth."""
        place = self.below(int(10 * sum(weights.values())))
        for key, weight in weights.items():
            place -= 10 * weight
            if place < 0:
                return key
        return key

    def octets(self, how_many):
        return bytes(self.below(256) for k in range(how_many))


def written(call):
    """A call as it stands in the list."""
    numbers = [CALLS.index(call[0])]
    for each in call[1:]:
        numbers += [len(each), *each] if isinstance(each, bytes) else [each]
    return numbers


class Maker:
    def __init__(self, number):
        self.dice = Dice(number)
        self.mood = MOODS[number % len(MOODS)]
        self.due = Reckoner()
        self.own_name = self.dice.one_of([bytes(20), b"\xff" * 20, self.dice.octets(20), self.dice.octets(20)])
        self.make_people()
        self.calls = []

    def make_people(self):
        own = int.from_bytes(self.own_name, "big")
        bits = [self.dice.one_of([0, 1, 3, 5, 8, 20, 64, 100, 158, 159, 159]) for k in range(self.mood["buckets"])]
        self.people = []
        for k in range(self.mood["names"]):
            bit = self.dice.one_of(bits)
            low = self.dice.below(2**self.dice.below(60)) % 2**bit
            name = short(own ^ 1 << bit ^ low, 20)
            self.people.append((name, self.dice.one_of([k, k, k + 1000, 0, 2**48 - 1])))

    def make(self):
        """The calls, and of each what is due to be answered."""
        dues = []
        numbers = 0
        call = ("begin",)
        while len(self.calls) < MOST_CALLS and numbers + len(written(call)) <= MOST_NUMBERS:
            self.calls.append(call)
            numbers += len(written(call))
            dues.append(getattr(self.due, call[0])(*call[1:]))
            self.look()
            call = self.next_call()
        return self.calls, dues

    def look(self):
        """For those who want to see what is held behind each call."""

    def next_call(self):
        if len(self.calls) == 1:
            return ("own", self.dice.one_of([0, 1, 2**64 - 1, self.dice.below(2**40)]), self.own_name)
        name = self.dice.weighted(self.mood["calls"])
        if self.is_idle(name):
            name = "come"
        return (name, *getattr(self, "make_" + name)())

    def is_idle(self, name):
        """Whether the call would most likely be refused, or is not wanted yet; some such are made all the same."""
        if name == "send":
            return len(self.calls) < self.mood.get("no_send_till", 0)
        if name == "search":
            return self.due.going is not None and not self.dice.once_in(5)
        if name in ("result", "value"):
            return self.due.ended is None and not self.dice.once_in(5)
        return False

    # What is handed in, by call

    def make_begin(self):
        return ()

    def make_own(self):
        return self.dice.below(1000), self.own_name

    def make_know(self):
        name, address = self.someone()
        return self.dice.one_of([address] * 8 + [5, 2**48, 2**64 - 1]), name

    def make_come(self):
        letters = self.mood["letters"]
        choice = self.dice.weighted({"answer": letters[0], "question": letters[1], "wrong": letters[2]})
        if choice == "answer" and self.due.asked:
            return self.right_answer()
        if choice == "wrong":
            return self.wrong_letter()
        return self.question()

    def make_time(self):
        choices = [0, 1, 300, 500, 999, 1000, 1001]
        if self.due.asked:
            left = 1000 - (self.due.clock - self.dice.one_of(self.due.asked)["at"])
            choices += [left, left - 1, left] * 2
        if self.due.kept:
            left = self.dice.one_of(sorted(self.due.kept.values()))[1] - self.due.clock
            choices += [left, left - 1, left - 1] if self.dice.once_in(4) else []
        if self.mood.get("little_time"):
            choices += [0, 1, 50, 100, 20, 30] * 4
        if self.dice.once_in(20):
            choices = [-1, 10000000, 10000001, 3599999, 3600000, LOWEST, HIGHEST]
        return (self.dice.one_of(choices),)

    def make_ping(self):
        return (self.known_name(),)

    def make_search(self):
        value = self.dice.one_of([1, 1, 1, -1, 0] if self.mood.get("for_value") else [0, 0, 0, 1, -1, HIGHEST, LOWEST])
        return value, self.any_name()

    def make_result(self):
        how_many = len(self.due.ended[0]) if self.due.ended else 0
        return (self.dice.one_of([-1, -1, 0, 0, 1, 2, how_many - 1, how_many, how_many - 1, -2, 7, 8, HIGHEST, LOWEST]),)

    def make_value(self):
        return (self.most(len(self.due.ended[1]) if self.due.ended and self.due.ended[1] is not None else 0),)

    def make_store(self):
        return self.known_name(), self.any_name(), self.content()

    def make_send(self):
        return (self.most(6 + len(self.due.to_send[0][1]) if self.due.to_send else 35),)

    def make_near(self):
        how_many = len(self.due.everyone())
        return self.dice.one_of([0, 0, 0, 1, 2, 3, 5, 7, 8, how_many - 1, how_many, -1, HIGHEST]), self.any_name()

    # Pieces

    def most(self, length):
        if self.dice.once_in(4):
            return self.dice.one_of([length - 1, -1, 0, 1, 4097, 34, 35, HIGHEST, LOWEST])
        return self.dice.one_of([length, length, 4096, length + 1])

    def someone(self):
        return self.dice.one_of(self.people)

    def known_name(self):
        everyone = self.due.everyone()
        if everyone and not self.dice.once_in(12):
            return self.dice.one_of(everyone)[0]
        return self.any_name()

    def any_name(self):
        if self.dice.once_in(15):
            return self.dice.one_of([self.own_name, bytes(20), b"\xff" * 20, self.dice.octets(20)])
        name = self.someone()[0]
        return name if self.dice.once_in(2) else name[:19] + bytes([name[19] ^ self.dice.below(4)])

    def content(self):
        if self.mood.get("short"):
            return self.dice.octets(self.dice.below(3))
        return self.dice.octets(self.dice.one_of([0, 1, 2, 5, 9, 30] * 8 + [255, 256, 511, 512]))

    def with_length(self, content):
        return short(len(content), 2) + content

    def told_people(self):
        how_many = self.dice.one_of([0, 1, 2, 3, 8, 8, 8])
        told = [self.told_someone() for k in range(how_many)]
        if told and self.dice.once_in(4):
            told[self.dice.below(how_many)] = (self.own_name, 4)
        if told and self.dice.once_in(4):
            told[self.dice.below(how_many)] = (self.any_name(), self.dice.below(2**48))
        return bytes([how_many]) + b"".join(name + short(address, 6) for name, address in told)

    def told_someone(self):
        if not self.mood.get("ever_nearer") or not self.due.going or self.dice.once_in(10):
            return self.someone()
        # The more are found, the nearer to the name that's searched, so that there are ever more to be asked.
        bit = 140 - 2 * len(self.due.going["found"])
        name = int.from_bytes(self.due.going["name"], "big") ^ 1 << bit ^ self.dice.below(2**60) % 2**bit
        return short(name, 20), self.dice.below(1000)

    def rest_of(self, kind):
        if kind in (0, 1, 7):
            return b""
        if kind == 3:
            return self.told_people()
        if kind == 5:
            return self.with_length(self.content())
        return self.any_name() + (self.with_length(self.content()) if kind == 6 else b"")

    def letter(self, kind, mark, sender):
        return bytes([kind]) + short(mark, 8) + sender + self.rest_of(kind)

    def right_answer(self):
        of_search = [each for each in self.due.asked if each["search"]]
        asked = self.dice.one_of(of_search if of_search and self.dice.once_in(2) else self.due.asked)
        if asked["kind"] in (2, 4):
            kind = 5 if self.dice.once_in(8) else 3
        else:
            kind = asked["kind"] + 1
        return asked["address"], self.letter(kind, asked["mark"], asked["name"])

    def question(self):
        sender, address = self.someone()
        kind = self.dice.one_of(self.mood.get("kinds", (0, 2, 4, 6)))
        return address, self.letter(kind, self.dice.below(2**63), sender)

    def wrong_letter(self):
        """A letter with one thing about it that is not right, or that is just at an edge."""
        address, letter = self.right_answer() if self.due.asked and self.dice.once_in(2) else self.question()
        wrong = self.dice.below(8)
        if wrong == 0:
            return self.dice.one_of([address ^ 1, 2**48, 2**64 - 1]), letter
        if wrong == 1:
            return address, letter[:-1]
        if wrong == 2:
            return address, letter + b"\x00"
        if wrong == 3:
            return address, letter[:9] + self.own_name + letter[29:]
        if wrong == 4:
            return address, letter[:9] + self.any_name() + letter[29:]
        if wrong == 5:
            return address, self.dice.one_of([b"", b"\x00", letter[:28], letter[:29], letter[:30], bytes(1024)])
        if wrong == 6:
            return address, bytes([self.dice.one_of([0, 1, 2, 3, 4, 5, 6, 7, 8, 255])]) + letter[1:]
        return address, letter[:8] + bytes([letter[8] ^ 1]) + letter[9:]
