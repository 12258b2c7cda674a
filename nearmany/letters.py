"""Letters: how they are read, strictly, and how they are written."""

from nearmany.octets import number_of, octets_of
from nearmany.someone import Someone

ARE_YOU_THERE = 0
I_AM_HERE = 1
WHO_IS_NEAR = 2
THESE_ARE = 3
VALUE_WANTED = 4
THE_VALUE = 5
KEEP_THIS = 6
IT_IS_KEPT = 7

MARK_OCTETS = 8
NAME_OCTETS = 20
ADDRESS_OCTETS = 6
LENGTH_OCTETS = 2
MARK_END = 9
HEAD_OCTETS = 29
SOMEONE_OCTETS = 26
MOST_PEOPLE = 8
LONGEST_CONTENT = 512


class Letter:
    def __init__(self, kind, mark, sender):
        self.kind = kind
        self.mark = mark
        self.sender = sender
        self.name = 0
        self.people = []
        self.content = []


def read_nothing(letter, rest):
    return len(rest) == 0


def read_name(letter, rest):
    letter.name = number_of(rest)
    return len(rest) == NAME_OCTETS


def read_people(letter, rest):
    if len(rest) == 0 or rest[0] > MOST_PEOPLE:
        return False
    if len(rest) != 1 + rest[0] * SOMEONE_OCTETS:
        return False
    letter.people = [read_someone(rest, 1 + k * SOMEONE_OCTETS) for k in range(rest[0])]
    return True


def read_someone(octets, start):
    name_end = start + NAME_OCTETS
    address_end = name_end + ADDRESS_OCTETS
    return Someone(number_of(octets[start:name_end]), number_of(octets[name_end:address_end]))


def read_content(letter, rest):
    if len(rest) < LENGTH_OCTETS:
        return False
    length = number_of(rest[:LENGTH_OCTETS])
    letter.content = rest[LENGTH_OCTETS:]
    return length <= LONGEST_CONTENT and length == len(letter.content)


def read_name_and_content(letter, rest):
    letter.name = number_of(rest[:NAME_OCTETS])
    return read_content(letter, rest[NAME_OCTETS:])


READERS = {
    0: read_nothing,
    1: read_nothing,
    2: read_name,
    3: read_people,
    4: read_name,
    5: read_content,
    6: read_name_and_content,
    7: read_nothing,
}


# None where it can't be read.
def read_letter(octets):
    if len(octets) < HEAD_OCTETS or octets[0] not in READERS:
        return None
    letter = Letter(octets[0], number_of(octets[1:MARK_END]), number_of(octets[MARK_END:HEAD_OCTETS]))
    read_rest = READERS[letter.kind]
    if not read_rest(letter, octets[HEAD_OCTETS:]):
        return None
    return letter


def letter_octets(kind, mark, sender, rest):
    return [kind] + octets_of(mark, MARK_OCTETS) + name_octets(sender) + rest


def name_octets(name):
    return octets_of(name, NAME_OCTETS)


def address_octets(address):
    return octets_of(address, ADDRESS_OCTETS)


def people_octets(people):
    octets = [len(people)]
    for someone in people:
        octets.extend(someone_octets(someone))
    return octets


def someone_octets(someone):
    return name_octets(someone.name) + address_octets(someone.address)


def content_octets(content):
    return octets_of(len(content), LENGTH_OCTETS) + content
