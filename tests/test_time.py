"""Promise 5: time, late letters and who's silent, and values kept for an hour."""

import unittest

from tests.helper import OWN, Line, full_bucket, in_bucket, letter_bytes, name_bytes, people_bytes, value_bytes

FRIEND = in_bucket(40)
OTHER = in_bucket(40, 1)
KEY = in_bucket(90, 12345)
HOUR = 3600000


def line_with_friend():
    line = Line()
    line.know(FRIEND, 5)
    return line


def be_silent(line, name):
    """A letter to someone, and time till it's late."""
    assert line.ping(name) == 0
    assert line.time(1000) == 0


class Time(unittest.TestCase):
    def test_so_many_milliseconds_go_by(self):
        line = Line()
        for milliseconds in (0, 1, 10000000):
            self.assertEqual(line.time(milliseconds), 0)
        self.assertEqual(line.one.now, 10000001)

    def test_refused(self):
        line = line_with_friend()
        line.ping(FRIEND)
        line.keep(KEY, b"v", FRIEND)
        before = line.held()
        for milliseconds in (-1, -1000, -2147483648, 10000001, 2147483647):
            self.assertEqual(line.time(milliseconds), -1)
        self.assertEqual(line.held(), before)

    def test_0_changes_nothing(self):
        line = line_with_friend()
        line.ping(FRIEND)
        line.time(999)
        before = line.held()
        self.assertEqual(line.time(0), 0)
        self.assertEqual(line.held(), before)

    def test_the_most_at_once(self):
        line = line_with_friend()
        line.ping(FRIEND)
        line.keep(KEY, b"v", FRIEND)
        self.assertEqual(line.time(10000000), 0)
        self.assertEqual(line.open_letters(), [])
        self.assertEqual(line.kept(), {})

    def test_the_longest_line_of_the_most(self):
        line = line_with_friend()
        for k in range(290):
            self.assertEqual(line.time(10000000), 0)
        line.ping(FRIEND)
        line.time(999)
        self.assertEqual(len(line.open_letters()), 1)
        line.time(1)
        self.assertEqual(line.open_letters(), [])


class Late(unittest.TestCase):
    def test_open_for_999_milliseconds(self):
        line = line_with_friend()
        line.ping(FRIEND)
        line.time(999)
        self.assertEqual(len(line.open_letters()), 1)
        self.assertEqual(line.silent_once(40), [])

    def test_open_for_1000_milliseconds(self):
        for parts in ((1000,), (999, 1), (0, 500, 500), (1001,)):
            line = line_with_friend()
            line.ping(FRIEND)
            for part in parts:
                line.time(part)
            self.assertEqual(line.open_letters(), [])
            self.assertEqual(line.silent_once(40), [FRIEND])

    def test_it_is_late_by_its_own_time(self):
        line = line_with_friend()
        line.time(700)
        first = line.pinged(FRIEND)
        line.time(400)
        second = line.pinged(FRIEND)
        line.time(599)
        self.assertEqual([each[1] for each in line.open_letters()], [first, second])
        line.time(1)
        self.assertEqual([each[1] for each in line.open_letters()], [second])
        line.time(399)
        self.assertEqual([each[1] for each in line.open_letters()], [second])
        line.time(1)
        self.assertEqual(line.open_letters(), [])

    def test_nothing_is_sent_again(self):
        line = line_with_friend()
        line.ping(FRIEND)
        line.sent()
        line.time(1000)
        self.assertEqual(line.outgoing(), [])


class Silent(unittest.TestCase):
    def test_once(self):
        line, names = full_bucket(waiting=1)
        be_silent(line, names[3])
        self.assertEqual(line.known_names(100), names[:8])
        self.assertEqual(line.silent_once(100), [names[3]])
        self.assertEqual(line.waiting_names(100), names[8:])

    def test_once_then_heard_then_once_more(self):
        line, names = full_bucket(waiting=1)
        be_silent(line, names[3])
        line.know(names[3], 1003)
        be_silent(line, names[3])
        self.assertEqual(line.known_names(100), names[:3] + names[4:8] + [names[3]])
        self.assertEqual(line.silent_once(100), [names[3]])

    def test_once_then_an_answer_then_once_more(self):
        line = line_with_friend()
        be_silent(line, FRIEND)
        line.come(5, letter_bytes(1, line.pinged(FRIEND), FRIEND))
        be_silent(line, FRIEND)
        self.assertEqual(line.known(40), [(FRIEND, 5)])
        be_silent(line, FRIEND)
        self.assertEqual(line.known(40), [])

    def test_twice_and_nobody_waits(self):
        line, names = full_bucket()
        be_silent(line, names[3])
        be_silent(line, names[3])
        self.assertEqual(line.known_names(100), names[:3] + names[4:])
        self.assertEqual(line.waiting(100), [])
        self.assertEqual(line.ping(names[3]), -1)

    def test_twice_and_who_waits_last_is_known(self):
        line, names = full_bucket(waiting=3)
        be_silent(line, names[3])
        be_silent(line, names[3])
        self.assertEqual(line.known_names(100), names[:3] + names[4:8] + [names[10]])
        self.assertEqual(line.known(100)[-1], (names[10], 1010))
        self.assertEqual(line.waiting_names(100), names[8:10])
        self.assertEqual(line.silent_once(100), [])

    def test_who_waits_is_of_that_bucket(self):
        line, names = full_bucket(waiting=1)
        line.know(FRIEND, 5)
        be_silent(line, FRIEND)
        be_silent(line, FRIEND)
        self.assertEqual(line.known(40), [])
        self.assertEqual(line.waiting_names(100), names[8:])

    def test_twice_at_one_time(self):
        line, names = full_bucket(waiting=1)
        line.ping(names[0])
        line.ping(names[0])
        line.time(1000)
        self.assertEqual(line.known_names(100), names[1:])

    def test_three_times_at_one_time(self):
        line = line_with_friend()
        for k in range(3):
            line.ping(FRIEND)
        line.time(1000)
        self.assertEqual(line.known(40), [])
        self.assertEqual(line.open_letters(), [])

    def test_then_there_is_room_for_someone_else(self):
        line, names = full_bucket()
        be_silent(line, names[3])
        be_silent(line, names[3])
        line.know(in_bucket(100, 50), 9)
        self.assertEqual(line.known(100)[-1], (in_bucket(100, 50), 9))
        self.assertEqual(line.waiting(100), [])

    def test_who_comes_to_be_known_by_waiting_is_silent_twice_too(self):
        line, names = full_bucket(waiting=1)
        be_silent(line, names[0])
        be_silent(line, names[0])
        be_silent(line, names[8])
        self.assertIn(names[8], line.known_names(100))
        be_silent(line, names[8])
        self.assertEqual(line.known_names(100), names[1:8])

    def test_known_with_another_address_by_then(self):
        line = line_with_friend()
        line.ping(FRIEND)
        line.ping(FRIEND)
        line.time(500)
        line.ping(FRIEND)
        line.time(500)
        self.assertEqual(line.known(40), [])
        line.know(FRIEND, 6)
        line.time(500)
        self.assertEqual(line.open_letters(), [])
        self.assertEqual(line.known(40), [(FRIEND, 6)])
        self.assertEqual(line.silent_once(40), [])

    def test_known_no_longer_by_then(self):
        line = line_with_friend()
        for k in range(2):
            line.ping(FRIEND)
        line.time(500)
        line.ping(FRIEND)
        line.time(500)
        line.time(500)
        self.assertEqual(line.known(40), [])
        self.assertEqual(line.open_letters(), [])


class TheOldestFirst(unittest.TestCase):
    def line_where_one_waits(self, ask_waiting_first):
        """The first is heard again, and waits; letters to the first and the second are open."""
        line, names = full_bucket()
        order = (names[0], names[1]) if ask_waiting_first else (names[1], names[0])
        for name in (names[0], names[0], names[1]):
            line.ping(name)
        line.time(500)
        line.ping(order[0])
        line.time(100)
        line.ping(order[1])
        line.time(400)
        line.know(in_bucket(100, 50), 9)
        line.know(names[0], 1000)
        self.assertEqual(line.waiting_names(100), [names[0]])
        self.assertEqual(line.silent_once(100), [names[1]])
        self.assertEqual(len(line.open_letters()), 2)
        line.time(1000)
        self.assertEqual(line.open_letters(), [])
        self.assertEqual(line.known_names(100)[-1], names[0])
        self.assertNotIn(names[1], line.known_names(100))
        return line, names

    def test_who_makes_room_first(self):
        line, names = self.line_where_one_waits(False)
        self.assertEqual(line.silent_once(100), [names[0]])

    def test_who_makes_room_last(self):
        line, names = self.line_where_one_waits(True)
        self.assertEqual(line.silent_once(100), [])

    def test_several_of_one_bucket(self):
        line, names = full_bucket(waiting=3)
        for name in (names[0], names[1], names[0], names[1]):
            line.ping(name)
        line.time(1000)
        self.assertEqual(line.known_names(100), names[2:8] + [names[10], names[9]])
        self.assertEqual(line.waiting_names(100), [names[8]])


class KeptForAnHour(unittest.TestCase):
    def asked(self, line):
        line.sent()
        line.come(5, letter_bytes(4, 1, FRIEND, name_bytes(KEY)))
        return line.sent()[0][1]

    def is_there(self, line, value):
        self.assertEqual(self.asked(line), letter_bytes(5, 1, OWN, value_bytes(value)))

    def is_gone(self, line):
        self.assertEqual(self.asked(line)[0], 3)
        self.assertNotIn(KEY, line.kept())

    def test_3599999_milliseconds(self):
        for parts in ((HOUR - 1,), (HOUR - 2, 1), (1, HOUR - 2)):
            line = Line()
            line.keep(KEY, b"value", FRIEND)
            for part in parts:
                line.time(part)
            self.is_there(line, b"value")

    def test_3600000_milliseconds(self):
        for parts in ((HOUR,), (HOUR - 1, 1), (1, HOUR - 1), (HOUR + 1,)):
            line = Line()
            line.keep(KEY, b"value", FRIEND)
            for part in parts:
                line.time(part)
            self.is_gone(line)
            self.assertEqual(self.asked(line), letter_bytes(3, 1, OWN, people_bytes([(FRIEND, 7)])))

    def test_from_when_it_was_kept_on(self):
        line = Line()
        line.time(12345)
        line.keep(KEY, b"value", FRIEND)
        line.time(HOUR - 1)
        self.is_there(line, b"value")
        line.time(1)
        self.is_gone(line)

    def test_kept_anew(self):
        line = Line()
        line.keep(KEY, b"older", FRIEND)
        line.time(HOUR - 1)
        line.keep(KEY, b"newer", FRIEND)
        line.time(HOUR - 1)
        self.is_there(line, b"newer")
        line.time(1)
        self.is_gone(line)

    def test_kept_anew_among_128(self):
        line = Line()
        line.keep(KEY, b"older", FRIEND)
        for name in range(127):
            line.keep(name, b"", FRIEND)
        line.time(HOUR - 1)
        line.keep(KEY, b"newer", FRIEND)
        line.time(1)
        self.assertEqual(line.kept(), {KEY: b"newer"})

    def test_a_question_does_not_keep_it_longer(self):
        line = Line()
        line.keep(KEY, b"value", FRIEND)
        line.time(HOUR - 1)
        self.is_there(line, b"value")
        line.time(1)
        self.is_gone(line)

    def test_several(self):
        line = Line()
        for name in range(4):
            line.keep(name, bytes([name]), FRIEND)
            line.time(10)
        line.time(HOUR - 20)
        self.assertEqual(line.kept(), {3: b"\x03"})
        line.time(10)
        self.assertEqual(line.kept(), {})


if __name__ == "__main__":
    unittest.main()
