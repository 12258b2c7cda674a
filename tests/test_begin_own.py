"""Promises 1 and 2: begin and own."""

import unittest

from nearmany.one import One
from tests.helper import (
    HIGHEST_SEED,
    NAMES,
    OWN,
    Line,
    begin_call,
    chance_numbers,
    in_bucket,
    letter_bytes,
    name_bytes,
    own_call,
    plain,
)

FRIEND = in_bucket(70)


def busy_line():
    """One that has done something of everything."""
    line = Line(OWN, 99)
    for low in range(12):
        line.know(in_bucket(100, low), low)
    line.know(FRIEND, 3)
    line.time(5)
    line.ping(FRIEND)
    line.time(1001)
    line.ping(FRIEND)
    line.keep(0, b"value", FRIEND)
    line.come(3, letter_bytes(2, 1, FRIEND, name_bytes(OWN)))
    line.search(FRIEND)
    return line


class Begin(unittest.TestCase):
    def test_the_beginning(self):
        line = Line()
        self.assertEqual(line.call(begin_call()), 0)
        self.assertEqual(line.one.own_name, 0)
        self.assertEqual(line.one.post.chance.state, 0)
        self.assertEqual(line.one.now, 0)
        self.assertEqual(line.everyone_known(), [])
        self.assertEqual([bit for bit in range(160) if line.waiting(bit)], [])
        self.assertEqual(line.open_letters(), [])
        self.assertEqual(line.kept(), {})
        self.assertIsNone(line.one.quest)
        self.assertIsNone(line.one.outcome)
        self.assertEqual(line.outgoing(), [])

    def test_behind_other_calls_all_is_as_new(self):
        line = busy_line()
        self.assertNotEqual(line.held(), plain(One()))
        self.assertEqual(line.call(begin_call()), 0)
        self.assertEqual(line.held(), plain(One()))

    def test_behind_a_search_that_is_over(self):
        line = Line()
        line.know(FRIEND)
        line.search(FRIEND)
        line.time(1000)
        self.assertEqual(line.outcome(), ([], None))
        line.call(begin_call())
        self.assertEqual(line.held(), plain(One()))
        self.assertEqual(line.result(-1), [-3])

    def test_twice(self):
        line = busy_line()
        self.assertEqual(line.call(begin_call()), 0)
        self.assertEqual(line.call(begin_call()), 0)
        self.assertEqual(line.held(), plain(One()))

    def test_the_own_name_is_0_then(self):
        line = busy_line()
        line.call(begin_call())
        self.assertEqual(line.know(0), -1)
        self.assertEqual(line.know(OWN), 0)
        self.assertEqual(line.come(1, letter_bytes(0, 0, 0)), 0)

    def test_chance_begins_anew(self):
        line = busy_line()
        line.call(begin_call())
        line.know(FRIEND)
        self.assertEqual(line.pinged(FRIEND), chance_numbers(0, 1)[0])


class Own(unittest.TestCase):
    def test_the_name_and_the_state_are_those(self):
        for name in (0, 1, OWN, NAMES - 1):
            for seed in (0, 1, 2**63, HIGHEST_SEED):
                line = busy_line()
                self.assertEqual(line.call(own_call(name, seed)), 0)
                self.assertEqual(line.one.own_name, name)
                self.assertEqual(line.one.post.chance.state, seed)

    def test_all_else_is_as_after_begin(self):
        line = busy_line()
        line.call(own_call(0, 0))
        self.assertEqual(line.held(), plain(One()))

    def test_behind_other_calls_it_is_as_behind_begin(self):
        line = busy_line()
        line.call(own_call(FRIEND, 5))
        self.assertEqual(line.held(), Line(FRIEND, 5).held())

    def test_someone_known_before_is_not_known(self):
        line = busy_line()
        self.assertEqual(line.ping(FRIEND), 0)
        line.call(own_call(OWN, 99))
        self.assertEqual(line.ping(FRIEND), -1)

    def test_letters_go_out_in_that_name(self):
        line = Line(OWN, 5)
        line.know(FRIEND, 3)
        line.ping(FRIEND)
        line.come(3, letter_bytes(0, 8, FRIEND))
        mark = chance_numbers(5, 1)[0]
        self.assertEqual(line.sent(), [(3, letter_bytes(0, mark, OWN)), (3, letter_bytes(1, 8, OWN))])

    def test_time_begins_anew(self):
        line = busy_line()
        line.call(own_call(OWN, 1))
        line.know(FRIEND)
        line.ping(FRIEND)
        line.time(999)
        self.assertEqual(len(line.open_letters()), 1)


if __name__ == "__main__":
    unittest.main()
