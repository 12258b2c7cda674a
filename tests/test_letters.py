"""Promise 4: which letters come read, and which do not."""

import unittest

from nearmany.letters import read_letter
from tests.helper import (
    HIGHEST_ADDRESS,
    NAMES,
    OWN,
    Line,
    in_bucket,
    letter_bytes,
    name_bytes,
    people_bytes,
    value_bytes,
)

SENDER = in_bucket(40)
KEY = in_bucket(90, 12345)
MARK = 0x0102030405060708


def crowd(how_many):
    return [(in_bucket(120, low), 500 + low) for low in range(how_many)]


def right_rests():
    """For each kind, what may follow the head."""
    key = name_bytes(KEY)
    return {
        0: [b""],
        1: [b""],
        2: [key],
        3: [people_bytes(crowd(how_many)) for how_many in range(9)],
        4: [key],
        5: [value_bytes(bytes(length)) for length in (0, 1, 255, 256, 511, 512)],
        6: [key + value_bytes(bytes(length)) for length in (0, 1, 255, 256, 511, 512)],
        7: [b""],
    }


class Refused(unittest.TestCase):
    def refuses(self, address, letter):
        line = Line()
        line.know(SENDER, 3)
        before = line.held()
        self.assertEqual(line.come(address, letter), -1)
        self.assertEqual(line.held(), before)

    def test_an_empty_letter(self):
        self.refuses(3, b"")

    def test_a_letter_that_is_too_long(self):
        self.refuses(3, bytes(1025))
        self.refuses(3, letter_bytes(0, MARK, SENDER) + bytes(1025 - 29))

    def test_an_address_that_is_too_high(self):
        for address in (2**48, 2**48 + 1, 2**64 - 1):
            self.refuses(address, letter_bytes(0, MARK, in_bucket(41)))
            self.refuses(address, b"")

    def test_the_highest_address(self):
        line = Line()
        self.assertEqual(line.come(HIGHEST_ADDRESS, letter_bytes(0, MARK, SENDER)), 1)
        self.assertEqual(line.known(40), [(SENDER, HIGHEST_ADDRESS)])
        self.assertEqual(line.sent(), [(HIGHEST_ADDRESS, letter_bytes(1, MARK, OWN))])

    def test_the_address_0(self):
        line = Line()
        self.assertEqual(line.come(0, letter_bytes(0, MARK, SENDER)), 1)
        self.assertEqual(line.sent(), [(0, letter_bytes(1, MARK, OWN))])


class Read(unittest.TestCase):
    def is_read(self, letter):
        self.assertEqual(Line().come(3, letter), 1, letter[:60])

    def is_not_read(self, letter):
        line = Line()
        before = line.held()
        self.assertEqual(line.come(3, letter), 0, letter[:60])
        self.assertEqual(line.held(), before)

    def test_each_kind_just_as_long_as_it_has_to_be(self):
        for kind, rests in right_rests().items():
            for rest in rests:
                self.is_read(letter_bytes(kind, MARK, SENDER, rest))

    def test_one_byte_shorter(self):
        for kind, rests in right_rests().items():
            for rest in rests:
                self.is_not_read(letter_bytes(kind, MARK, SENDER, rest)[:-1])

    def test_one_byte_longer(self):
        for kind, rests in right_rests().items():
            for rest in rests:
                self.is_not_read(letter_bytes(kind, MARK, SENDER, rest) + b"\x00")

    def test_cut_anywhere(self):
        for kind, rests in right_rests().items():
            letter = letter_bytes(kind, MARK, SENDER, rests[-1])
            for length in range(1, len(letter)):
                self.is_not_read(letter[:length])

    def test_a_kind_of_8_and_more(self):
        for kind in (8, 9, 10, 127, 128, 254, 255):
            self.is_not_read(letter_bytes(kind, MARK, SENDER))
            self.is_not_read(letter_bytes(kind, MARK, SENDER, name_bytes(KEY)))

    def test_1024_bytes(self):
        for kind in range(9):
            self.is_not_read(letter_bytes(kind, MARK, SENDER) + bytes(1024 - 29))

    def test_one_byte(self):
        for kind in range(9):
            self.is_not_read(bytes([kind]))

    def test_more_than_eight_people(self):
        self.is_read(letter_bytes(3, MARK, SENDER, people_bytes(crowd(8))))
        self.is_not_read(letter_bytes(3, MARK, SENDER, people_bytes(crowd(9))))
        self.is_not_read(letter_bytes(3, MARK, SENDER, people_bytes(crowd(10))))

    def test_a_count_of_people_that_is_not_theirs(self):
        people = people_bytes(crowd(3))
        for count in (0, 1, 2, 4, 8, 9, 255):
            self.is_not_read(letter_bytes(3, MARK, SENDER, bytes([count]) + people[1:]))

    def test_a_value_that_is_too_long(self):
        for length in (513, 514, 900):
            self.is_not_read(letter_bytes(5, MARK, SENDER, value_bytes(bytes(length))))
            self.is_not_read(letter_bytes(6, MARK, SENDER, name_bytes(KEY) + value_bytes(bytes(length))))

    def test_a_length_that_is_not_the_values(self):
        for length in (b"\x00\x00", b"\x00\x03", b"\x00\x05", b"\x04\x00", b"\xff\xff"):
            self.is_not_read(letter_bytes(5, MARK, SENDER, length + b"four"))
            self.is_not_read(letter_bytes(6, MARK, SENDER, name_bytes(KEY) + length + b"four"))

    def test_the_lengths_highest_byte_comes_first(self):
        self.is_read(letter_bytes(5, MARK, SENDER, b"\x01\x02" + bytes(0x0102)))
        self.is_not_read(letter_bytes(5, MARK, SENDER, b"\x01\x02" + bytes(0x0201)))

    def test_from_the_own_name(self):
        for kind, rests in right_rests().items():
            for rest in rests:
                self.is_not_read(letter_bytes(kind, MARK, OWN, rest))

    def test_from_the_own_name_0(self):
        line = Line(0)
        before = line.held()
        self.assertEqual(line.come(3, letter_bytes(0, MARK, 0)), 0)
        self.assertEqual(line.held(), before)
        self.assertEqual(line.come(3, letter_bytes(0, MARK, 1)), 1)


class WhatIsRead(unittest.TestCase):
    def test_the_head(self):
        letter = read_letter(list(letter_bytes(7, MARK, SENDER)))
        self.assertEqual((letter.kind, letter.mark, letter.sender), (7, MARK, SENDER))

    def test_the_highest_numbers(self):
        highest = (HIGHEST_ADDRESS, NAMES - 1, 2**64 - 1)
        letter = read_letter(list(letter_bytes(3, highest[2], highest[1], people_bytes([(highest[1], highest[0])]))))
        self.assertEqual((letter.mark, letter.sender), (highest[2], highest[1]))
        self.assertEqual([(someone.name, someone.address) for someone in letter.people], [(highest[1], highest[0])])

    def test_people(self):
        letter = read_letter(list(letter_bytes(3, MARK, SENDER, people_bytes(crowd(8)))))
        self.assertEqual([(someone.name, someone.address) for someone in letter.people], crowd(8))

    def test_a_value(self):
        self.assertEqual(read_letter(list(letter_bytes(5, MARK, SENDER, value_bytes(b"abc")))).content, list(b"abc"))

    def test_a_value_to_keep(self):
        letter = read_letter(list(letter_bytes(6, MARK, SENDER, name_bytes(KEY) + value_bytes(b"abc"))))
        self.assertEqual((letter.name, letter.content), (KEY, list(b"abc")))


if __name__ == "__main__":
    unittest.main()
