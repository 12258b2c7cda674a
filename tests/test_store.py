"""Promise 10: store."""

import unittest

from tests.helper import (
    OWN,
    Line,
    chance_numbers,
    full_bucket,
    in_bucket,
    letter_bytes,
    name_bytes,
    store_call,
    value_bytes,
)

FRIEND = in_bucket(40)
OTHER = in_bucket(40, 1)
STRANGER = in_bucket(41)
KEY = in_bucket(90, 12345)


def line_with_friends():
    line = Line()
    line.know(FRIEND, 5)
    line.know(OTHER, 6)
    return line


def keep_letter(mark, value, key=KEY):
    return letter_bytes(6, mark, OWN, name_bytes(key) + value_bytes(value))


class Store(unittest.TestCase):
    def test_the_letter_that_is_sent(self):
        line = line_with_friends()
        self.assertEqual(line.store(FRIEND, KEY, b"value"), 0)
        mark = chance_numbers(0, 1)[0]
        self.assertEqual(line.open_letters(), [(6, mark, FRIEND, 5)])
        self.assertEqual(line.sent(), [(5, keep_letter(mark, b"value"))])

    def test_lengths(self):
        for length in (0, 1, 255, 256, 257, 511, 512):
            line = line_with_friends()
            value = bytes(7 * k % 256 for k in range(length))
            self.assertEqual(line.store(OTHER, KEY, value), 0)
            self.assertEqual(line.sent(), [(6, keep_letter(chance_numbers(0, 1)[0], value))])

    def test_a_value_that_is_too_long(self):
        line = line_with_friends()
        before = line.held()
        for length in (513, 1024):
            self.assertEqual(line.store(FRIEND, KEY, bytes(length)), -1)
        self.assertEqual(line.held(), before)

    def test_any_key(self):
        for key in (0, OWN, FRIEND, (1 << 160) - 1):
            line = line_with_friends()
            self.assertEqual(line.store(FRIEND, key, b"v"), 0)
            self.assertEqual(line.sent(), [(5, keep_letter(chance_numbers(0, 1)[0], b"v", key))])

    def test_the_highest_bytes_come_first(self):
        line = Line(0)
        line.know(int.from_bytes(range(1, 21), "big"), 9)
        self.assertEqual(line.call([9, 20, *range(1, 21), 20, *range(101, 121), 3, 7, 8, 9]), 0)
        self.assertEqual(line.sent()[0][1][29:], bytes([*range(101, 121), 0, 3, 7, 8, 9]))

    def test_a_name_that_nobody_known_has(self):
        line = line_with_friends()
        before = line.held()
        for name in (STRANGER, FRIEND ^ 2, OWN, 0, KEY):
            for value in (b"", b"value", bytes(512)):
                self.assertEqual(line.store(name, KEY, value), -1)
        self.assertEqual(line.held(), before)

    def test_someone_who_waits(self):
        line, names = full_bucket(waiting=1)
        self.assertEqual(line.store(names[8], KEY, b"v"), -1)
        self.assertEqual(line.store(names[7], KEY, b"v"), 0)
        self.assertEqual(line.sent()[0][0], 1007)

    def test_it_is_not_kept_here(self):
        line = line_with_friends()
        line.store(FRIEND, KEY, b"value")
        self.assertEqual(line.kept(), {})

    def test_nobody_is_heard_by_it(self):
        line = line_with_friends()
        line.store(FRIEND, KEY, b"value")
        self.assertEqual(line.known_names(40), [FRIEND, OTHER])

    def test_the_marks_go_on(self):
        line = line_with_friends()
        line.store(FRIEND, KEY, b"a")
        line.ping(OTHER)
        line.store(STRANGER, KEY, b"b")
        line.store(OTHER, KEY, b"c")
        marks = chance_numbers(0, 3)
        self.assertEqual(
            line.sent(),
            [(5, keep_letter(marks[0], b"a")), (6, letter_bytes(0, marks[1], OWN)), (6, keep_letter(marks[2], b"c"))],
        )

    def test_what_is_handed_in_is_as_it_was(self):
        line = line_with_friends()
        call = store_call(FRIEND, KEY, b"value")
        line.call(call)
        line.sent()
        self.assertEqual(call, store_call(FRIEND, KEY, b"value"))


class SixtyFourOpen(unittest.TestCase):
    def line_with_open(self, how_many):
        line = line_with_friends()
        for k in range(how_many):
            self.assertEqual(line.store(FRIEND, KEY, b""), 0)
        return line

    def test_63(self):
        self.assertEqual(self.line_with_open(63).store(FRIEND, KEY, b""), 0)

    def test_64(self):
        line = self.line_with_open(64)
        before = line.held()
        self.assertEqual(line.store(FRIEND, KEY, b"value"), -2)
        self.assertEqual(line.ping(FRIEND), -2)
        self.assertEqual(line.search(FRIEND), -2)
        self.assertEqual(line.held(), before)

    def test_the_name_and_the_length_are_looked_at_first(self):
        line = self.line_with_open(64)
        self.assertEqual(line.store(STRANGER, KEY, b"value"), -1)
        self.assertEqual(line.store(FRIEND, KEY, bytes(513)), -1)

    def test_where_one_is_answered_there_is_room(self):
        line = self.line_with_open(64)
        line.come(5, letter_bytes(7, chance_numbers(0, 1)[0], FRIEND))
        self.assertEqual(line.store(FRIEND, KEY, b""), 0)
        self.assertEqual(line.store(FRIEND, KEY, b""), -2)


class ItsAnswer(unittest.TestCase):
    def setUp(self):
        self.line = line_with_friends()
        self.line.ping(FRIEND)
        self.line.time(1000)
        self.line.store(FRIEND, KEY, b"value")
        self.line.sent()
        self.mark = chance_numbers(0, 2)[1]

    def test_its_sender_is_heard(self):
        self.assertEqual(self.line.come(5, letter_bytes(7, self.mark, FRIEND)), 1)
        self.assertEqual(self.line.open_letters(), [])
        self.assertEqual(self.line.known_names(40), [OTHER, FRIEND])
        self.assertEqual(self.line.silent_once(40), [])
        self.assertEqual(self.line.sent(), [])

    def test_other_kinds_answer_nothing(self):
        before = self.line.held()
        for kind, rest in ((1, b""), (3, b"\x00"), (5, b"\x00\x00")):
            self.assertEqual(self.line.come(5, letter_bytes(kind, self.mark, FRIEND, rest)), 1)
        self.assertEqual(self.line.held(), before)

    def test_a_letter_that_is_late(self):
        self.line.time(999)
        self.assertEqual(len(self.line.open_letters()), 1)
        self.line.time(1)
        self.assertEqual(self.line.open_letters(), [])
        self.assertEqual(self.line.nearest(OWN), [(OTHER, 6)])

    def test_an_answer_that_comes_too_late(self):
        self.line.time(1000)
        before = self.line.held()
        self.assertEqual(self.line.come(5, letter_bytes(7, self.mark, FRIEND)), 1)
        self.assertEqual(self.line.held(), before)

    def test_it_is_not_the_searchs(self):
        line = line_with_friends()
        line.search(FRIEND)
        line.store(FRIEND, KEY, b"value")
        mark = chance_numbers(0, 3)[2]
        before = line.found()
        line.come(5, letter_bytes(7, mark, FRIEND))
        self.assertEqual(line.found(), before)
        self.assertEqual(len(line.open_letters()), 2)

    def test_a_late_one_is_not_the_searchs(self):
        line = line_with_friends()
        line.store(FRIEND, KEY, b"value")
        line.time(500)
        line.search(FRIEND)
        before = line.found()
        line.time(500)
        self.assertEqual(line.found(), before)
        self.assertEqual(line.silent_once(40), [FRIEND])


if __name__ == "__main__":
    unittest.main()
