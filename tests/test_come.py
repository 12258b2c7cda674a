"""Promise 4: letters of kinds 0, 2, 4 and 6, and what they are answered."""

import unittest

from tests.helper import (
    HIGHEST_SEED,
    OWN,
    Line,
    full_bucket,
    in_bucket,
    letter_bytes,
    name_bytes,
    people_bytes,
    value_bytes,
)

SENDER = in_bucket(40)
KEY = in_bucket(90, 12345)
MARK = 0x8102030405060708
HOUR = 3600000
LETTERS = {
    0: letter_bytes(0, MARK, SENDER),
    2: letter_bytes(2, MARK, SENDER, name_bytes(KEY)),
    4: letter_bytes(4, MARK, SENDER, name_bytes(KEY)),
    6: letter_bytes(6, MARK, SENDER, name_bytes(KEY) + value_bytes(b"value")),
}


def crowded_line(how_many=20):
    """A line that knows many, in many buckets, and they, with their addresses."""
    line = Line()
    people = [(in_bucket(60 + 5 * k, k * k * k), 900 - k) for k in range(how_many)]
    for name, address in people:
        assert line.know(name, address) == 0
    return line, people


def nearest(people, name):
    return sorted(people, key=lambda someone: someone[0] ^ name)[:8]


class AnswersThatAreDue(unittest.TestCase):
    def answer(self, line, letter, address=77):
        line.sent()
        self.assertEqual(line.come(address, letter), 1)
        letters = line.sent()
        self.assertEqual([to for to, octets in letters], [address])
        return letters[0][1]

    def test_are_you_there(self):
        self.assertEqual(self.answer(Line(), LETTERS[0]), letter_bytes(1, MARK, OWN))

    def test_the_lowest_and_the_highest_mark(self):
        for mark in (0, HIGHEST_SEED):
            self.assertEqual(self.answer(Line(), letter_bytes(0, mark, SENDER)), letter_bytes(1, mark, OWN))

    def test_who_is_near_where_nobody_is_known(self):
        self.assertEqual(self.answer(Line(), LETTERS[2]), letter_bytes(3, MARK, OWN, b"\x00"))

    def test_who_is_near_where_fewer_than_eight_are_known(self):
        for how_many in (1, 2, 7, 8):
            line, people = crowded_line(how_many)
            due = letter_bytes(3, MARK, OWN, people_bytes(nearest(people, KEY)))
            self.assertEqual(self.answer(line, LETTERS[2]), due)

    def test_who_is_near_where_many_are_known(self):
        for name in (KEY, OWN, SENDER, 0, in_bucket(155), in_bucket(61, 1)):
            line, people = crowded_line()
            due = letter_bytes(3, MARK, OWN, people_bytes(nearest(people, name)))
            self.assertEqual(self.answer(line, letter_bytes(2, MARK, SENDER, name_bytes(name))), due)

    def test_the_nearest_of_one_bucket(self):
        line, names = full_bucket(waiting=3)
        people = [(name, 1000 + k) for k, name in enumerate(names[:8])]
        due = letter_bytes(3, MARK, OWN, people_bytes(nearest(people, names[5])))
        self.assertEqual(self.answer(line, letter_bytes(2, MARK, SENDER, name_bytes(names[5]))), due)

    def test_the_nearest_are_as_before_the_sender_was_heard(self):
        for kind in (2, 4):
            line, people = crowded_line()
            letter = letter_bytes(kind, MARK, SENDER, name_bytes(SENDER))
            due = letter_bytes(3, MARK, OWN, people_bytes(nearest(people, SENDER)))
            self.assertEqual(self.answer(line, letter), due)
            people.append((SENDER, 77))
            due = letter_bytes(3, MARK, OWN, people_bytes(nearest(people, SENDER)))
            self.assertEqual(self.answer(line, letter), due)

    def test_a_value_that_is_not_kept(self):
        line, people = crowded_line()
        due = letter_bytes(3, MARK, OWN, people_bytes(nearest(people, KEY)))
        self.assertEqual(self.answer(line, LETTERS[4]), due)

    def test_a_value_that_is_kept(self):
        for value in (b"", b"v", b"value", bytes(range(256)) * 2):
            line, people = crowded_line()
            self.assertEqual(line.keep(KEY, value, people[0][0]), 1)
            self.assertEqual(self.answer(line, LETTERS[4]), letter_bytes(5, MARK, OWN, value_bytes(value)))

    def test_who_is_near_is_no_question_for_a_value(self):
        line = Line()
        line.keep(KEY, b"value", SENDER)
        due = letter_bytes(3, MARK, OWN, people_bytes([(SENDER, 7)]))
        self.assertEqual(self.answer(line, LETTERS[2]), due)

    def test_a_value_of_another_name(self):
        line = Line()
        line.keep(KEY ^ 1, b"value", SENDER)
        due = letter_bytes(3, MARK, OWN, people_bytes([(SENDER, 7)]))
        self.assertEqual(self.answer(line, LETTERS[4]), due)

    def test_keep_this(self):
        line = Line()
        self.assertEqual(self.answer(line, LETTERS[6]), letter_bytes(7, MARK, OWN))
        self.assertEqual(line.kept(), {KEY: b"value"})

    def test_a_value_of_the_own_name_and_of_the_senders(self):
        line = Line()
        line.keep(OWN, b"mine", SENDER)
        line.keep(SENDER, b"theirs", SENDER)
        self.assertEqual(line.kept(), {OWN: b"mine", SENDER: b"theirs"})

    def test_the_answer_goes_to_where_the_letter_came_from(self):
        for kind, letter in LETTERS.items():
            line = Line()
            line.know(SENDER, 5)
            self.assertEqual(self.answer(line, letter, 6)[:9], bytes([kind + 1 - 2 * (kind == 4)]) + letter[1:9])
            self.assertEqual(line.known(40), [(SENDER, 5)])

    def test_an_answer_is_not_open_and_takes_no_chance(self):
        line = Line()
        for letter in LETTERS.values():
            line.come(1, letter)
        self.assertEqual(line.open_letters(), [])
        self.assertEqual(line.one.post.chance.state, 0)

    def test_answers_wait_in_the_order_in_which_letters_came(self):
        line = Line()
        for address in (9, 4, 7):
            line.come(address, letter_bytes(0, address, SENDER))
        self.assertEqual(line.sent(), [(address, letter_bytes(1, address, OWN)) for address in (9, 4, 7)])


class TheSenderIsHeard(unittest.TestCase):
    def test_of_each_kind(self):
        for letter in LETTERS.values():
            line = Line()
            self.assertEqual(line.come(5, letter), 1)
            self.assertEqual(line.known(40), [(SENDER, 5)])

    def test_again(self):
        for letter in LETTERS.values():
            line = Line()
            line.know(SENDER, 5)
            line.know(SENDER ^ 1, 6)
            line.ping(SENDER)
            line.time(1000)
            line.come(5, letter)
            self.assertEqual(line.known_names(40), [SENDER ^ 1, SENDER])
            self.assertEqual(line.silent_once(40), [])

    def test_from_another_address(self):
        for letter in LETTERS.values():
            line = Line()
            line.know(SENDER, 5)
            line.know(SENDER ^ 1, 6)
            line.ping(SENDER)
            line.time(1000)
            line.come(4, letter)
            self.assertEqual(line.known(40), [(SENDER, 5), (SENDER ^ 1, 6)])
            self.assertEqual(line.silent_once(40), [SENDER])

    def test_where_the_bucket_is_full(self):
        line, names = full_bucket()
        sender = in_bucket(100, 99)
        line.come(4, letter_bytes(0, MARK, sender))
        self.assertEqual(line.known_names(100), names)
        self.assertEqual(line.waiting(100), [(sender, 4)])


class Keeping(unittest.TestCase):
    def full_shelf(self):
        line = Line()
        for name in range(128):
            self.assertEqual(line.keep(name, bytes([name]), SENDER), 1)
        line.sent()
        return line

    def test_128_values(self):
        line = self.full_shelf()
        self.assertEqual(line.kept(), {name: bytes([name]) for name in range(128)})

    def test_another_is_not_kept_but_answered(self):
        line = self.full_shelf()
        before = line.kept()
        self.assertEqual(line.keep(128, b"more", SENDER, MARK), 1)
        self.assertEqual(line.kept(), before)
        self.assertEqual(line.sent(), [(7, letter_bytes(7, MARK, OWN))])
        line.come(7, letter_bytes(4, MARK, SENDER, name_bytes(128)))
        self.assertEqual(line.sent()[0][1][0], 3)

    def test_one_of_a_name_that_is_kept_already(self):
        line = self.full_shelf()
        self.assertEqual(line.keep(5, b"newer", SENDER, MARK), 1)
        self.assertEqual(line.kept()[5], b"newer")
        self.assertEqual(len(line.kept()), 128)
        self.assertEqual(line.sent(), [(7, letter_bytes(7, MARK, OWN))])

    def test_instead_of_one_of_that_name(self):
        line = Line()
        line.keep(KEY, b"older", SENDER)
        line.keep(KEY, b"", SENDER)
        self.assertEqual(line.kept(), {KEY: b""})

    def test_the_127th_and_the_128th(self):
        line = Line()
        for name in range(127):
            line.keep(name, b"", SENDER)
        line.keep(300, b"x", SENDER)
        self.assertEqual(len(line.kept()), 128)
        self.assertEqual(line.kept()[300], b"x")

    def test_where_one_is_kept_no_longer_there_is_room(self):
        line = Line()
        line.keep(1000, b"", SENDER)
        line.time(1)
        for name in range(127):
            line.keep(name, b"", SENDER)
        line.time(HOUR - 2)
        line.keep(2000, b"", SENDER)
        self.assertNotIn(2000, line.kept())
        line.time(1)
        line.keep(2000, b"", SENDER)
        self.assertIn(2000, line.kept())
        self.assertNotIn(1000, line.kept())


class LettersThatWaitToBeSent(unittest.TestCase):
    def full_post(self):
        line = Line()
        for mark in range(256):
            self.assertEqual(line.come(mark, letter_bytes(0, mark, SENDER)), 1)
        return line

    def test_256(self):
        line = self.full_post()
        self.assertEqual(line.outgoing(), [(mark, letter_bytes(1, mark, OWN)) for mark in range(256)])

    def test_another_is_lost(self):
        line = self.full_post()
        before = line.outgoing()
        for letter in LETTERS.values():
            self.assertEqual(line.come(999, letter), 1)
        self.assertEqual(line.outgoing(), before)

    def test_what_else_the_letter_does_is_done(self):
        line = self.full_post()
        self.assertEqual(line.come(8, letter_bytes(6, 0, in_bucket(3), name_bytes(KEY) + value_bytes(b"v"))), 1)
        self.assertEqual(line.known(3), [(in_bucket(3), 8)])
        self.assertEqual(line.kept(), {KEY: b"v"})

    def test_once_one_is_sent_there_is_room(self):
        line = self.full_post()
        self.assertEqual(line.send(35), [35, 0, 0, 0, 0, 0, 0, *letter_bytes(1, 0, OWN)])
        line.come(8, letter_bytes(0, MARK, SENDER))
        self.assertEqual(len(line.outgoing()), 256)
        self.assertEqual(line.outgoing()[-1], (8, letter_bytes(1, MARK, OWN)))

    def test_a_letter_asked_that_is_lost_is_open(self):
        line = self.full_post()
        before = line.outgoing()
        mark = line.pinged(SENDER)
        self.assertEqual(line.outgoing(), before)
        self.assertEqual(line.open_letters(), [(0, mark, SENDER, 0)])


if __name__ == "__main__":
    unittest.main()
