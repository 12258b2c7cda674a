"""What the tests share: how calls and letters are written, and a line of calls whose object can be looked at."""

from nearmany.desk import answers_of
from nearmany.one import One

OWN = 0xA1B2C3D4E5F60718293A4B5C6D7E8F9012345678
NAMES = 1 << 160
HIGHEST_ADDRESS = 2**48 - 1
HIGHEST_SEED = 2**64 - 1


def in_bucket(bit, low=0, own=OWN):
    """A name whose highest bit that differs from the own name's is that one."""
    assert 0 <= low < 1 << bit
    return own ^ (1 << bit) ^ low


def name_bytes(name):
    return name.to_bytes(20, "big")


def someone_bytes(name, address):
    return name_bytes(name) + address.to_bytes(6, "big")


def begin_call():
    return [0]


def own_call(name, seed):
    return [1, seed, 20, *name_bytes(name)]


def know_call(name, address):
    return [2, address, 20, *name_bytes(name)]


def come_call(address, letter):
    return [3, address, len(letter), *letter]


def time_call(milliseconds):
    return [4, milliseconds]


def ping_call(name):
    return [5, 20, *name_bytes(name)]


def search_call(name, value=0):
    return [6, value, 20, *name_bytes(name)]


def result_call(k):
    return [7, k]


def value_call(most):
    return [8, most]


def store_call(name, key, value):
    return [9, 20, *name_bytes(name), 20, *name_bytes(key), len(value), *value]


def send_call(most):
    return [10, most]


def near_call(name, k):
    return [11, k, 20, *name_bytes(name)]


def letter_bytes(kind, mark, sender, rest=b""):
    return bytes([kind]) + mark.to_bytes(8, "big") + name_bytes(sender) + rest


def people_bytes(people):
    return bytes([len(people)]) + b"".join(someone_bytes(*someone) for someone in people)


def value_bytes(value):
    return len(value).to_bytes(2, "big") + value


def read_someone(octets):
    """The name and the address in 26 bytes."""
    assert len(octets) == 26, octets
    return int.from_bytes(octets[:20], "big"), int.from_bytes(octets[20:], "big")


def chance_numbers(seed, how_many):
    """As the document tells chance, with no word of the program's."""
    numbers = []
    for step in range(1, how_many + 1):
        z = (seed + step * 0x9E3779B97F4A7C15) % 2**64
        y = (z ^ z >> 30) * 0xBF58476D1CE4E5B9 % 2**64
        x = (y ^ y >> 27) * 0x94D049BB133111EB % 2**64
        numbers.append(x ^ x >> 31)
    return numbers


def plain(value):
    """All that a value holds, as lists, tuples and dicts that can be compared and that don't change later."""
    if isinstance(value, dict):
        return {key: plain(value[key]) for key in value}
    if isinstance(value, (list, tuple)):
        return [plain(each) for each in value]
    if hasattr(value, "__dict__"):
        return (value.__class__.__name__, plain(vars(value)))
    return value


class Line:
    """Calls on one object, one by one, and what it holds."""

    def __init__(self, name=OWN, seed=0):
        self.one = One()
        self.call(begin_call())
        self.call(own_call(name, seed))

    def ask(self, numbers):
        """All numbers that one call answers."""
        given = answers_of(self.one, numbers)
        assert given[0] == len(given) - 1, given
        return given[1:]

    def call(self, numbers):
        """The one number that a call answers."""
        given = self.ask(numbers)
        assert len(given) == 1, given
        return given[0]

    def know(self, name, address=1):
        return self.call(know_call(name, address))

    def come(self, address, letter):
        return self.call(come_call(address, letter))

    def time(self, milliseconds):
        return self.call(time_call(milliseconds))

    def ping(self, name):
        return self.call(ping_call(name))

    def search(self, name, value=0):
        return self.call(search_call(name, value))

    def result(self, k):
        return self.ask(result_call(k))

    def value(self, most):
        return self.ask(value_call(most))

    def store(self, name, key, value):
        return self.call(store_call(name, key, value))

    def send(self, most=4096):
        return self.ask(send_call(most))

    def near(self, name, k):
        return self.ask(near_call(name, k))

    def nearest(self, name):
        """All that near tells of a name."""
        first = self.near(name, 0)
        how_many = max(first[0], 0)
        rows = [self.near(name, k) for k in range(how_many)]
        assert [row[0] for row in rows] == [how_many] * how_many, rows
        assert self.near(name, how_many) == [-1]
        return [read_someone(row[1:]) for row in rows]

    def pinged(self, name):
        """The mark of a ping that is asked now."""
        assert self.ping(name) == 0
        return self.open_letters()[-1][1]

    def keep(self, name, value, sender, mark=0):
        return self.come(7, letter_bytes(6, mark, sender, name_bytes(name) + value_bytes(value)))

    def held(self):
        return plain(self.one)

    def known(self, bit):
        return [(someone.name, someone.address) for someone in self.one.buckets.rows[bit].known]

    def known_names(self, bit):
        return [name for name, address in self.known(bit)]

    def everyone_known(self):
        return [someone for bit in range(160) for someone in self.known(bit)]

    def waiting(self, bit):
        return [(someone.name, someone.address) for someone in self.one.buckets.rows[bit].waiting]

    def waiting_names(self, bit):
        return [name for name, address in self.waiting(bit)]

    def silent_once(self, bit):
        return [someone.name for someone in self.one.buckets.rows[bit].known if someone.was_silent]

    def outgoing(self):
        return [(address, bytes(octets)) for address, octets in self.one.post.outgoing]

    def sent(self):
        """The letters that wait to be sent, with their addresses; they wait no longer."""
        letters = []
        given = self.send()
        while given != [-3]:
            assert given[0] == len(given) - 1, given
            letters.append((int.from_bytes(given[1:7], "big"), bytes(given[7:])))
            given = self.send()
        return letters

    def open_letters(self):
        return [(asked.kind, asked.mark, asked.name, asked.address) for asked in self.one.post.unanswered]

    def kept(self):
        return {name: bytes(self.one.shelf.content_of(name)) for name in self.one.shelf.kept}

    def found(self):
        return [(other.name, other.address, other.state) for other in self.one.quest.found]

    def outcome(self):
        """Who the search's result is, and the value, where it is one; None where there's no result."""
        how_many = self.result(-1)
        if how_many == [-3]:
            return None
        assert how_many[1:] == [0] * 26, how_many
        rows = [self.result(k) for k in range(how_many[0])]
        assert [row[0] for row in rows] == how_many[:1] * how_many[0], rows
        assert self.result(how_many[0]) == [-1]
        value = self.value(4096)
        return [read_someone(row[1:]) for row in rows], None if value == [-3] else bytes(value[1:])


def full_bucket(bit=100, waiting=0):
    """A line with eight known in a bucket, some who wait, and their names, in order; the address is 1000 and more."""
    line = Line()
    names = [in_bucket(bit, low) for low in range(8 + waiting)]
    for place, name in enumerate(names):
        assert line.know(name, 1000 + place) == 0
    return line, names
