"""Promise 11: send."""

import unittest

from tests.helper import OWN, Line, begin_call, chance_numbers, in_bucket, letter_bytes, name_bytes, own_call, value_bytes

FRIEND = in_bucket(40)
KEY = in_bucket(90, 12345)
OUTSIDE = (0, -1, -35, -4096, -2147483648, 4097, 4098, 2147483647)
SHORTEST = 35


def line_with_letter(address=0xA1B2C3D4E5F6):
    """A letter of 29 bytes waits; with its address it's 35."""
    line = Line()
    assert line.come(address, letter_bytes(0, 0x0102030405060708, FRIEND)) == 1
    return line


class Send(unittest.TestCase):
    def test_none(self):
        line = Line()
        before = line.held()
        for most in (1, SHORTEST, 4095, 4096, *OUTSIDE):
            self.assertEqual(line.send(most), [-3])
        self.assertEqual(line.held(), before)

    def test_the_address_and_the_letter(self):
        for most in (SHORTEST, SHORTEST + 1, 4095, 4096):
            line = line_with_letter()
            due = [35, 0xA1, 0xB2, 0xC3, 0xD4, 0xE5, 0xF6, 1, 1, 2, 3, 4, 5, 6, 7, 8, *name_bytes(OWN)]
            self.assertEqual(line.send(most), due)
            self.assertEqual(line.send(most), [-3])

    def test_the_lowest_and_the_highest_address(self):
        for address, due in ((0, [0] * 6), (1, [0] * 5 + [1]), (2**48 - 1, [255] * 6)):
            self.assertEqual(line_with_letter(address).send()[1:7], due)

    def test_longer_than_most(self):
        line = line_with_letter()
        before = line.held()
        for most in (SHORTEST - 1, SHORTEST - 6, 1, *OUTSIDE):
            self.assertEqual(line.send(most), [-2])
        self.assertEqual(line.held(), before)
        self.assertEqual(line.send(SHORTEST)[0], 35)

    def test_the_longest_letter(self):
        line = Line()
        line.know(FRIEND, 5)
        value = bytes(k % 251 for k in range(512))
        line.store(FRIEND, KEY, value)
        letter = letter_bytes(6, chance_numbers(0, 1)[0], OWN, name_bytes(KEY) + value_bytes(value))
        length = 6 + 29 + 20 + 2 + 512
        self.assertEqual(line.send(length - 1), [-2])
        self.assertEqual(line.send(length), [length, 0, 0, 0, 0, 0, 5, *letter])
        self.assertEqual(line.send(length), [-3])

    def test_the_first_that_waits_is_the_one_that_may_be_too_long(self):
        line = Line()
        line.know(FRIEND, 5)
        line.store(FRIEND, KEY, b"value")
        line.ping(FRIEND)
        self.assertEqual(line.send(SHORTEST), [-2])
        self.assertEqual(line.send(SHORTEST), [-2])
        self.assertEqual(line.send(62)[0], 62)
        self.assertEqual(line.send(SHORTEST)[0], 35)
        self.assertEqual(line.send(SHORTEST), [-3])

    def test_the_order_of_several(self):
        line = Line()
        line.know(FRIEND, 5)
        line.ping(FRIEND)
        line.come(8, letter_bytes(0, 77, FRIEND))
        line.search(KEY)
        line.store(FRIEND, KEY, b"v")
        marks = chance_numbers(0, 3)
        self.assertEqual(
            line.sent(),
            [
                (5, letter_bytes(0, marks[0], OWN)),
                (8, letter_bytes(1, 77, OWN)),
                (5, letter_bytes(2, marks[1], OWN, name_bytes(KEY))),
                (5, letter_bytes(6, marks[2], OWN, name_bytes(KEY) + value_bytes(b"v"))),
            ],
        )

    def test_letters_put_behind_while_some_are_sent(self):
        line = Line()
        sent = []
        for mark in range(6):
            line.come(mark, letter_bytes(0, mark, FRIEND))
            if mark % 2:
                sent.append(line.send()[6])
        self.assertEqual(sent + [to for to, octets in line.sent()], list(range(6)))

    def test_sending_is_nothing_to_open_letters(self):
        line = Line()
        line.know(FRIEND, 5)
        line.ping(FRIEND)
        before = line.open_letters()
        line.send()
        self.assertEqual(line.open_letters(), before)
        self.assertEqual(line.come(5, letter_bytes(1, before[0][1], FRIEND)), 1)
        self.assertEqual(line.open_letters(), [])

    def test_a_letter_that_is_late_is_sent_all_the_same(self):
        line = Line()
        line.know(FRIEND, 5)
        line.ping(FRIEND)
        line.time(10000000)
        self.assertEqual(line.sent(), [(5, letter_bytes(0, chance_numbers(0, 1)[0], OWN))])

    def test_a_letter_is_as_it_was_when_it_was_put(self):
        line = Line()
        line.keep(KEY, b"older", FRIEND)
        line.come(7, letter_bytes(4, 1, FRIEND, name_bytes(KEY)))
        line.keep(KEY, b"newer", FRIEND)
        self.assertEqual(line.sent()[1], (7, letter_bytes(5, 1, OWN, value_bytes(b"older"))))

    def test_none_behind_begin_and_own(self):
        for call in (begin_call(), own_call(OWN, 3)):
            line = line_with_letter()
            line.call(call)
            self.assertEqual(line.send(), [-3])


class TwoHundredAndFiftySixWait(unittest.TestCase):
    def full_post(self):
        line = Line()
        for mark in range(256):
            line.come(mark, letter_bytes(0, mark, FRIEND))
        return line

    def marks_sent(self, line):
        return [int.from_bytes(octets[1:9], "big") for to, octets in line.sent()]

    def test_another_is_lost(self):
        line = self.full_post()
        line.come(1, letter_bytes(0, 999, FRIEND))
        self.assertEqual(self.marks_sent(line), list(range(256)))

    def test_one_is_sent_then_another_put(self):
        line = self.full_post()
        line.come(1, letter_bytes(0, 999, FRIEND))
        line.send()
        line.come(1, letter_bytes(0, 1000, FRIEND))
        line.come(1, letter_bytes(0, 1001, FRIEND))
        self.assertEqual(self.marks_sent(line), [*range(1, 256), 1000])

    def test_a_refusal_makes_no_room(self):
        line = self.full_post()
        line.send(34)
        line.come(1, letter_bytes(0, 999, FRIEND))
        self.assertEqual(self.marks_sent(line), list(range(256)))

    def test_a_letter_asked_is_lost_too_but_open(self):
        line = self.full_post()
        self.assertEqual(line.ping(FRIEND), 0)
        self.assertEqual(line.store(FRIEND, KEY, b""), 0)
        self.assertEqual(self.marks_sent(line), list(range(256)))
        line.time(1000)
        self.assertEqual(line.near(FRIEND, 0), [-1])


if __name__ == "__main__":
    unittest.main()
