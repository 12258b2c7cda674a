"""The answers that are due, reckoned from the document's words, with nothing of the program's.

Written apart from the package and in another way: names are bytes, all that is held stands in plain lists and
dicts, and nothing is spared.
"""

MASK = 2**64 - 1


def distance(first, second):
    return int.from_bytes(bytes(a ^ b for a, b in zip(first, second)), "big")


def highest_bit(number):
    bit = 159
    while not number >> bit & 1:
        bit -= 1
    return bit


def short(number, width):
    return number.to_bytes(width, "big")


class Reckoner:
    def __init__(self):
        self.anew(bytes(20), 0)

    def anew(self, name, seed):
        self.name = name
        self.seed = seed
        self.clock = 0
        self.known = {bit: [] for bit in range(160)}  # each: [name, address, how often silent]
        self.wait = {bit: [] for bit in range(160)}  # each: (name, address)
        self.to_send = []  # each: (address, bytes)
        self.asked = []  # each: dict of kind, mark, name, address, at, search
        self.kept = {}  # name: (bytes, till)
        self.going = None  # dict of name, value, found; each found: [name, address, state]
        self.ended = None  # (people, bytes or None)

    # Words

    def bit_of(self, name):
        return highest_bit(distance(name, self.name))

    def hear(self, name, address):
        if name == self.name:
            return
        bit = self.bit_of(name)
        same = [someone for someone in self.known[bit] if someone[0] == name]
        if same:
            if same[0][1] == address:
                self.known[bit] = [each for each in self.known[bit] if each[0] != name] + [[name, address, 0]]
            return
        still = [each for each in self.wait[bit] if each[0] != name]
        if len(self.known[bit]) < 8:
            self.known[bit] = self.known[bit] + [[name, address, 0]]
            self.wait[bit] = still
        else:
            self.wait[bit] = (still + [(name, address)])[-8:]

    def hush(self, name, address):
        bit = self.bit_of(name)
        for someone in self.known[bit]:
            if someone[:2] == [name, address]:
                someone[2] += 1
        if [someone for someone in self.known[bit] if someone[2] == 2]:
            self.known[bit] = [someone for someone in self.known[bit] if someone[2] < 2]
            if self.wait[bit]:
                last = self.wait[bit][-1]
                self.wait[bit] = self.wait[bit][:-1]
                self.known[bit].append([*last, 0])

    def everyone(self):
        return [(someone[0], someone[1]) for bit in range(160) for someone in self.known[bit]]

    def nearest(self, name):
        left = self.everyone()
        near = []
        while left and len(near) < 8:
            best = min(left, key=lambda someone: distance(someone[0], name))
            left.remove(best)
            near.append(best)
        return near

    def address_of(self, name):
        found = [address for other, address in self.everyone() if other == name]
        return found[0] if found else None

    def chance(self):
        self.seed = self.seed + 0x9E3779B97F4A7C15 & MASK
        z = self.seed
        y = (z ^ z >> 30) * 0xBF58476D1CE4E5B9 & MASK
        x = (y ^ y >> 27) * 0x94D049BB133111EB & MASK
        return x ^ x >> 31

    def post(self, address, kind, mark, rest):
        if len(self.to_send) < 256:
            self.to_send.append((address, bytes([kind]) + short(mark, 8) + self.name + rest))

    def question(self, name, address, kind, rest, search):
        mark = self.chance()
        self.post(address, kind, mark, rest)
        self.asked.append(
            {"kind": kind, "mark": mark, "name": name, "address": address, "at": self.clock, "search": search}
        )

    # A letter that comes

    def read(self, letter):
        """Whether the letter is just as long as its kind asks."""
        if len(letter) < 29:
            return False
        kind, rest = letter[0], letter[29:]
        if kind in (0, 1, 7):
            return rest == b""
        if kind in (2, 4):
            return len(rest) == 20
        if kind == 3:
            return rest != b"" and rest[0] <= 8 and len(rest) == 1 + 26 * rest[0]
        if kind == 6:
            if len(rest) < 20:
                return False
            rest = rest[20:]
        if kind in (5, 6):
            return len(rest) >= 2 and rest[0] * 256 + rest[1] <= 512 and len(rest) == 2 + rest[0] * 256 + rest[1]
        return False

    def letter_came(self, address, letter):
        kind, mark, sender, rest = letter[0], int.from_bytes(letter[1:9], "big"), letter[9:29], letter[29:]
        if kind % 2 == 1:
            self.answer_came(address, kind, mark, sender, rest)
            return
        near = b"".join(name + short(where, 6) for name, where in self.nearest(rest[:20]))
        near = bytes([len(near) // 26]) + near
        self.hear(sender, address)
        if kind == 0:
            self.post(address, 1, mark, b"")
        elif kind == 2:
            self.post(address, 3, mark, near)
        elif kind == 4 and rest in self.kept:
            value = self.kept[rest][0]
            self.post(address, 5, mark, short(len(value), 2) + value)
        elif kind == 4:
            self.post(address, 3, mark, near)
        elif kind == 6:
            if len([name for name in self.kept if name != rest[:20]]) < 128:
                self.kept[rest[:20]] = (rest[22:], self.clock + 3600000)
            self.post(address, 7, mark, b"")

    def answer_came(self, address, kind, mark, sender, rest):
        fits = [
            each
            for each in self.asked
            if (each["mark"], each["address"], each["name"]) == (mark, address, sender)
            and (each["kind"], kind) in ((0, 1), (2, 3), (2, 5), (4, 3), (4, 5), (6, 7))
        ]
        if not fits:
            return
        self.asked.remove(fits[0])
        self.hear(sender, address)
        if not fits[0]["search"]:
            return
        self.mark_found(sender, "answered")
        if kind == 5 and self.going["value"]:
            self.finish([], rest[2:])
            return
        if kind == 3:
            for start in range(1, len(rest), 26):
                self.find(rest[start:start + 20], int.from_bytes(rest[start + 20:start + 26], "big"))
        self.go_on()

    # A search

    def mark_found(self, name, state):
        for other in self.going["found"]:
            if other[0] == name:
                other[2] = state

    def find(self, name, address):
        found = self.going["found"]
        if name == self.name or name in [other[0] for other in found] or len(found) >= 64:
            return
        place = 0
        while place < len(found) and distance(found[place][0], self.going["name"]) < distance(name, self.going["name"]):
            place += 1
        found.insert(place, [name, address, "not asked"])

    def go_on(self):
        found = self.going["found"]
        while True:
            counted = [other for other in found if other[2] != "silent"][:8]
            free = [other for other in counted if other[2] == "not asked"]
            how_many = [other[2] for other in found].count("asked")
            if how_many >= 3 or not free:
                break
            free[0][2] = "asked"
            self.question(free[0][0], free[0][1], 4 if self.going["value"] else 2, self.going["name"], True)
        if how_many == 0:
            self.finish([(other[0], other[1]) for other in counted], None)

    def finish(self, people, value):
        self.going = None
        self.ended = (people, value)
        for each in self.asked:
            each["search"] = False

    # The promises, each with its numbers and rows as they stand in a call; it gives back all that's answered

    def begin(self):
        self.anew(bytes(20), 0)
        return [0]

    def own(self, seed, name):
        self.anew(name, seed)
        return [0]

    def know(self, address, name):
        if address >= 2**48 or name == self.name:
            return [-1]
        self.hear(name, address)
        return [0]

    def come(self, address, letter):
        if not 1 <= len(letter) <= 1024 or address >= 2**48:
            return [-1]
        if not self.read(letter) or letter[9:29] == self.name:
            return [0]
        self.letter_came(address, letter)
        return [1]

    def time(self, milliseconds):
        if not 0 <= milliseconds <= 10000000:
            return [-1]
        self.clock += milliseconds
        self.kept = {name: each for name, each in self.kept.items() if each[1] > self.clock}
        while True:
            late = [each for each in self.asked if self.clock - each["at"] >= 1000]
            if not late:
                return [0]
            oldest = late[0]
            self.asked.remove(oldest)
            self.hush(oldest["name"], oldest["address"])
            if oldest["search"]:
                self.mark_found(oldest["name"], "silent")
                self.go_on()

    def ping(self, name):
        if self.address_of(name) is None:
            return [-1]
        if len(self.asked) >= 64:
            return [-2]
        self.question(name, self.address_of(name), 0, b"", False)
        return [0]

    def search(self, value, name):
        if self.going is not None or len(self.asked) >= 64:
            return [-2]
        if not self.everyone():
            return [-3]
        self.ended = None
        found = [[other, address, "not asked"] for other, address in self.nearest(name)]
        self.going = {"name": name, "value": value != 0, "found": found}
        self.go_on()
        return [0]

    def result(self, k):
        if self.ended is None:
            return [-3]
        people = self.ended[0]
        if k == -1:
            return [len(people), *bytes(26)]
        if k not in range(len(people)):
            return [-1]
        return [len(people), *people[k][0], *short(people[k][1], 6)]

    def value(self, most):
        if self.ended is None or self.ended[1] is None:
            return [-3]
        if len(self.ended[1]) > (most if most in range(1, 4097) else 0):
            return [-2]
        return [len(self.ended[1]), *self.ended[1]]

    def store(self, name, key, value):
        if len(value) > 512 or self.address_of(name) is None:
            return [-1]
        if len(self.asked) >= 64:
            return [-2]
        self.question(name, self.address_of(name), 6, key + short(len(value), 2) + value, False)
        return [0]

    def send(self, most):
        if not self.to_send:
            return [-3]
        both = short(self.to_send[0][0], 6) + self.to_send[0][1]
        if len(both) > (most if most in range(1, 4097) else 0):
            return [-2]
        self.to_send = self.to_send[1:]
        return [len(both), *both]

    def near(self, k, name):
        near = self.nearest(name)
        if k not in range(len(near)):
            return [-1]
        return [len(near), *near[k][0], *short(near[k][1], 6)]


CALLS = ("begin", "own", "know", "come", "time", "ping", "search", "result", "value", "store", "send", "near")
