"""Promise 6: ping, and with it asking and chance."""

import unittest

from tests.helper import (
    HIGHEST_SEED,
    OWN,
    Line,
    chance_numbers,
    full_bucket,
    in_bucket,
    letter_bytes,
)

FRIEND = in_bucket(40)
STRANGER = in_bucket(41)


def line_with_friend(seed=0):
    line = Line(OWN, seed)
    line.know(FRIEND, 5)
    return line


class Ping(unittest.TestCase):
    def test_a_letter_of_kind_0_is_sent_and_open(self):
        line = line_with_friend()
        self.assertEqual(line.ping(FRIEND), 0)
        mark = chance_numbers(0, 1)[0]
        self.assertEqual(line.outgoing(), [(5, letter_bytes(0, mark, OWN))])
        self.assertEqual(line.open_letters(), [(0, mark, FRIEND, 5)])

    def test_they_are_not_heard_by_it(self):
        line, names = full_bucket()
        line.ping(names[2])
        self.assertEqual(line.known_names(100), names)

    def test_a_name_that_nobody_known_has(self):
        line = line_with_friend()
        before = line.held()
        for name in (STRANGER, FRIEND ^ 1, OWN, 0):
            self.assertEqual(line.ping(name), -1)
        self.assertEqual(line.held(), before)

    def test_where_nobody_is_known(self):
        line = Line()
        before = line.held()
        for name in (FRIEND, OWN, OWN ^ 1, OWN ^ 1 << 159):
            self.assertEqual(line.ping(name), -1)
        self.assertEqual(line.held(), before)

    def test_someone_who_waits(self):
        line, names = full_bucket(waiting=1)
        before = line.held()
        self.assertEqual(line.ping(names[8]), -1)
        self.assertEqual(line.held(), before)

    def test_the_lowest_and_the_highest_bucket(self):
        line = Line()
        line.know(in_bucket(0), 1)
        line.know(in_bucket(159), 2)
        self.assertEqual(line.ping(in_bucket(0)), 0)
        self.assertEqual(line.ping(in_bucket(159)), 0)
        self.assertEqual([address for address, octets in line.outgoing()], [1, 2])

    def test_the_own_name_is_not_taken_for_someone_of_the_highest_bucket(self):
        line, names = full_bucket(bit=159)
        self.assertEqual(line.ping(OWN), -1)

    def test_someone_heard_by_a_letter(self):
        line = Line()
        line.come(8, letter_bytes(0, 1, STRANGER))
        self.assertEqual(line.ping(STRANGER), 0)
        self.assertEqual(line.outgoing()[-1], (8, letter_bytes(0, chance_numbers(0, 1)[0], OWN)))

    def test_the_same_again(self):
        line = line_with_friend()
        self.assertEqual(line.ping(FRIEND), 0)
        self.assertEqual(line.ping(FRIEND), 0)
        self.assertEqual(len(line.open_letters()), 2)


class SixtyFourOpen(unittest.TestCase):
    def busy_line(self):
        line = line_with_friend()
        for k in range(64):
            self.assertEqual(line.ping(FRIEND), 0)
        return line

    def test_another_is_refused(self):
        line = self.busy_line()
        self.assertEqual(len(line.open_letters()), 64)
        before = line.held()
        self.assertEqual(line.ping(FRIEND), -2)
        self.assertEqual(line.held(), before)

    def test_the_name_is_looked_at_first(self):
        line = self.busy_line()
        self.assertEqual(line.ping(STRANGER), -1)
        self.assertEqual(line.ping(OWN), -1)

    def test_where_one_is_answered_there_is_room_for_one(self):
        line = self.busy_line()
        line.come(5, letter_bytes(1, line.open_letters()[30][1], FRIEND))
        self.assertEqual(line.ping(FRIEND), 0)
        self.assertEqual(line.ping(FRIEND), -2)

    def test_where_they_are_late_there_is_room(self):
        line = self.busy_line()
        line.know(STRANGER, 6)
        self.assertEqual(line.ping(STRANGER), -2)
        line.time(1000)
        self.assertEqual(line.ping(FRIEND), -1)
        self.assertEqual(line.ping(STRANGER), 0)

    def test_what_waits_to_be_sent_does_not_count(self):
        line = self.busy_line()
        line.sent()
        self.assertEqual(line.ping(FRIEND), -2)

    def test_where_a_search_has_opened_more(self):
        line = Line()
        for k in range(3):
            line.know(in_bucket(60 + k), 5)
        line.know(FRIEND, 5)
        for k in range(63):
            self.assertEqual(line.ping(FRIEND), 0)
        self.assertEqual(line.search(in_bucket(60)), 0)
        self.assertEqual(len(line.open_letters()), 66)
        self.assertEqual(line.ping(FRIEND), -2)


class Chance(unittest.TestCase):
    def test_the_documents_words_in_numbers(self):
        self.assertEqual(chance_numbers(0, 3), [0xE220A8397B1DCDAF, 0x6E789E6AA1B965F4, 0x06C45D188009454F])

    def test_the_marks_of_seeds(self):
        for seed in (0, 1, 1234567, 2**32, 2**63 - 1, 2**63, 0x9E3779B97F4A7C15, HIGHEST_SEED - 1, HIGHEST_SEED):
            line = line_with_friend(seed)
            marks = [line.pinged(FRIEND) for k in range(20)]
            self.assertEqual(marks, chance_numbers(seed, 20))
            sent = [int.from_bytes(octets[1:9], "big") for address, octets in line.sent()]
            self.assertEqual(sent, marks)

    def test_a_refusal_takes_no_number(self):
        line = line_with_friend(3)
        line.ping(STRANGER)
        line.ping(OWN)
        self.assertEqual(line.pinged(FRIEND), chance_numbers(3, 1)[0])

    def test_the_same_seed_gives_the_same_marks(self):
        first = line_with_friend(77)
        second = line_with_friend(77)
        self.assertEqual([first.pinged(FRIEND) for k in range(5)], [second.pinged(FRIEND) for k in range(5)])


if __name__ == "__main__":
    unittest.main()
