"""Promises 1 to 6, as they are seen by who has nothing but the list of calls and the list of answers."""

import unittest

from nearmany.desk import answers
from tests.helper import (
    OWN,
    begin_call,
    chance_numbers,
    come_call,
    in_bucket,
    know_call,
    letter_bytes,
    name_bytes,
    near_call,
    own_call,
    people_bytes,
    ping_call,
    result_call,
    search_call,
    send_call,
    someone_bytes,
    store_call,
    time_call,
    value_bytes,
    value_call,
)

FRIEND = in_bucket(40)
OTHER = in_bucket(41)
KEY = in_bucket(90, 12345)
HOUR = 3600000
MARKS = chance_numbers(0, 300)


class Script(unittest.TestCase):
    """Calls with what's due of each; at the end all are made at once, in one list."""

    def setUp(self):
        self.calls = []
        self.due = []
        self.does(begin_call())
        self.does(own_call(OWN, 0))

    def does(self, call, *due):
        due = due or (0,)
        self.calls += call
        self.due += [len(due), *due]

    def sends(self, address, letter):
        self.does(send_call(4096), 6 + len(letter), *address.to_bytes(6, "big"), *letter)

    def sends_no_more(self):
        self.does(send_call(4096), -3)

    def nearest_are(self, name, people):
        for k, someone in enumerate(people):
            self.does(near_call(name, k), len(people), *someone_bytes(*someone))
        self.does(near_call(name, len(people)), -1)

    def knows(self, people):
        for name, address in people:
            self.does(know_call(name, address))

    def is_silent_twice(self, name):
        self.does(ping_call(name))
        self.does(ping_call(name))
        self.does(time_call(1000))

    def tearDown(self):
        self.assertEqual(answers(self.calls), self.due)


class BeginAndOwn(Script):
    def all_is_new(self):
        self.sends_no_more()
        self.nearest_are(OWN, [])
        self.does(result_call(-1), -3)
        self.does(value_call(4096), -3)
        self.does(search_call(FRIEND), -3)
        self.does(ping_call(FRIEND), -1)
        self.does(store_call(FRIEND, KEY, b""), -1)

    def much_happens(self):
        self.knows([(FRIEND, 5), (OTHER, 6)])
        self.does(ping_call(FRIEND))
        self.does(come_call(5, letter_bytes(6, 9, FRIEND, name_bytes(KEY) + value_bytes(b"v"))), 1)
        self.does(search_call(KEY))
        self.does(time_call(1000))
        self.does(result_call(-1), *[0] * 27)
        self.does(search_call(KEY))

    def keeps_nothing(self, own):
        self.does(come_call(3, letter_bytes(4, 1, OTHER, name_bytes(KEY))), 1)
        self.sends(3, letter_bytes(3, 1, own, b"\x00"))

    def test_at_first(self):
        self.all_is_new()

    def test_begin_behind_much(self):
        self.much_happens()
        self.does(begin_call())
        self.all_is_new()
        self.keeps_nothing(0)
        self.does(ping_call(OTHER))
        self.sends(3, letter_bytes(0, MARKS[0], 0))

    def test_own_behind_much(self):
        self.much_happens()
        self.does(own_call(KEY, 77))
        self.all_is_new()
        self.keeps_nothing(KEY)
        self.does(ping_call(OTHER))
        self.sends(3, letter_bytes(0, chance_numbers(77, 1)[0], KEY))

    def test_letters_that_were_open_are_not(self):
        self.much_happens()
        self.does(own_call(OWN, 0))
        self.does(come_call(5, letter_bytes(1, MARKS[0], FRIEND)), 1)
        self.nearest_are(OWN, [])

    def test_letters_that_were_open_do_not_count(self):
        self.knows([(FRIEND, 5)])
        for k in range(64):
            self.does(ping_call(FRIEND))
        self.does(ping_call(FRIEND), -2)
        self.does(own_call(OWN, 0))
        self.knows([(FRIEND, 5)])
        self.does(ping_call(FRIEND))


class KnowIsSeen(Script):
    """Who's the bucket's last is seen by who's known when others are silent."""

    def setUp(self):
        super().setUp()
        self.people = [(in_bucket(100, low), 1000 + low) for low in range(20)]

    def test_someone_is_near(self):
        self.knows([(FRIEND, 0), (OTHER, 2**48 - 1)])
        self.nearest_are(OTHER, [(OTHER, 2**48 - 1), (FRIEND, 0)])

    def test_refusals_change_nothing(self):
        self.does(know_call(FRIEND, 2**48), -1)
        self.does(know_call(FRIEND, 2**64 - 1), -1)
        self.does(know_call(OWN, 1), -1)
        self.nearest_are(OWN, [])

    def test_another_address_is_not_taken(self):
        self.knows([(FRIEND, 5), (FRIEND, 6)])
        self.nearest_are(OWN, [(FRIEND, 5)])

    def test_a_ninth_waits_till_one_is_silent_twice(self):
        self.knows(self.people[:9])
        self.nearest_are(self.people[0][0], self.people[:8])
        self.is_silent_twice(self.people[3][0])
        self.nearest_are(self.people[0][0], self.people[:3] + self.people[4:9])

    def test_who_waits_last_comes_first(self):
        self.knows(self.people[:11])
        for silent, known in ((0, 10), (1, 9), (2, 8)):
            self.is_silent_twice(self.people[silent][0])
            self.does(ping_call(self.people[known][0]))
            self.does(come_call(1000 + known, letter_bytes(0, 0, self.people[known][0])), 1)
        self.nearest_are(self.people[3][0], sorted(self.people[3:11], key=lambda each: each[0] ^ self.people[3][0]))

    def test_of_nine_that_wait_the_first_is_forgotten(self):
        self.knows(self.people[:17])
        for k in range(8):
            self.is_silent_twice(self.people[k][0])
        target = self.people[16][0]
        self.nearest_are(target, sorted(self.people[9:17], key=lambda each: each[0] ^ target))
        self.is_silent_twice(self.people[16][0])
        self.nearest_are(target, sorted(self.people[9:16], key=lambda each: each[0] ^ target))

    def test_who_waits_and_is_heard_again_is_the_last_of_those(self):
        self.knows(self.people[:10] + [self.people[8]])
        self.is_silent_twice(self.people[0][0])
        target = self.people[8][0]
        self.nearest_are(target, [self.people[8]] + sorted(self.people[1:8], key=lambda each: each[0] ^ target))


class ComeIsSeen(Script):
    def test_the_four_questions(self):
        self.does(come_call(5, letter_bytes(0, 1, FRIEND)), 1)
        self.does(come_call(6, letter_bytes(2, 2, OTHER, name_bytes(KEY))), 1)
        self.does(come_call(6, letter_bytes(6, 3, OTHER, name_bytes(KEY) + value_bytes(b"value"))), 1)
        self.does(come_call(7, letter_bytes(4, 4, OTHER, name_bytes(KEY))), 1)
        self.does(come_call(7, letter_bytes(4, 5, OTHER, name_bytes(KEY ^ 1))), 1)
        near = people_bytes(sorted([(FRIEND, 5), (OTHER, 6)], key=lambda each: each[0] ^ KEY ^ 1))
        self.sends(5, letter_bytes(1, 1, OWN))
        self.sends(6, letter_bytes(3, 2, OWN, people_bytes([(FRIEND, 5)])))
        self.sends(6, letter_bytes(7, 3, OWN))
        self.sends(7, letter_bytes(5, 4, OWN, value_bytes(b"value")))
        self.sends(7, letter_bytes(3, 5, OWN, near))
        self.sends_no_more()
        self.nearest_are(OWN, [(FRIEND, 5), (OTHER, 6)])

    def test_letters_that_are_not_read(self):
        for letter in (b"\x00", letter_bytes(0, 1, FRIEND, b"\x00"), letter_bytes(8, 1, FRIEND), bytes(1024)):
            self.does(come_call(5, letter), 0)
        self.does(come_call(5, letter_bytes(0, 1, OWN)), 0)
        self.does(come_call(5, b""), -1)
        self.does(come_call(2**48, letter_bytes(0, 1, FRIEND)), -1)
        self.sends_no_more()
        self.nearest_are(OWN, [])

    def test_an_answer_keeps_someone_known(self):
        self.knows([(FRIEND, 5)])
        self.does(ping_call(FRIEND))
        self.does(time_call(1000))
        self.does(ping_call(FRIEND))
        self.does(come_call(5, letter_bytes(1, MARKS[1], FRIEND)), 1)
        self.does(time_call(1000))
        self.does(ping_call(FRIEND))
        self.does(time_call(1000))
        self.nearest_are(OWN, [(FRIEND, 5)])

    def test_a_letter_that_answers_nothing_does_not(self):
        self.knows([(FRIEND, 5)])
        self.does(ping_call(FRIEND))
        self.does(ping_call(FRIEND))
        for letter in (
            letter_bytes(1, MARKS[2], FRIEND),
            letter_bytes(3, MARKS[1], FRIEND, b"\x00"),
            letter_bytes(5, MARKS[1], FRIEND, b"\x00\x00"),
            letter_bytes(7, MARKS[1], FRIEND),
            letter_bytes(1, MARKS[1], OTHER),
        ):
            self.does(come_call(5, letter), 1)
        self.does(come_call(6, letter_bytes(1, MARKS[1], FRIEND)), 1)
        self.does(time_call(1000))
        self.nearest_are(OWN, [])

    def test_128_values_are_kept_and_no_more(self):
        for name in range(129):
            self.does(come_call(5, letter_bytes(6, name, FRIEND, name_bytes(name) + value_bytes(bytes([name])))), 1)
            self.sends(5, letter_bytes(7, name, OWN))
        for name in (0, 127):
            self.does(come_call(5, letter_bytes(4, 0, FRIEND, name_bytes(name))), 1)
            self.sends(5, letter_bytes(5, 0, OWN, value_bytes(bytes([name]))))
        self.does(come_call(5, letter_bytes(4, 0, FRIEND, name_bytes(128))), 1)
        self.sends(5, letter_bytes(3, 0, OWN, people_bytes([(FRIEND, 5)])))


class TimeAndPingAreSeen(Script):
    def asks_for_key(self, rest, kind):
        self.does(come_call(5, letter_bytes(4, 0, FRIEND, name_bytes(KEY))), 1)
        self.sends(5, letter_bytes(kind, 0, OWN, rest))

    def test_a_value_for_an_hour(self):
        self.does(come_call(5, letter_bytes(6, 9, FRIEND, name_bytes(KEY) + value_bytes(b"v"))), 1)
        self.sends(5, letter_bytes(7, 9, OWN))
        self.does(time_call(HOUR - 1))
        self.asks_for_key(value_bytes(b"v"), 5)
        self.does(time_call(0))
        self.asks_for_key(value_bytes(b"v"), 5)
        self.does(time_call(1))
        self.asks_for_key(people_bytes([(FRIEND, 5)]), 3)

    def test_time_refused_goes_not_by(self):
        self.knows([(FRIEND, 5)])
        self.does(ping_call(FRIEND))
        self.does(ping_call(FRIEND))
        for milliseconds in (-1, 10000001, 2147483647, -2147483648):
            self.does(time_call(milliseconds), -1)
        self.does(time_call(999))
        self.nearest_are(OWN, [(FRIEND, 5)])
        self.does(time_call(1))
        self.nearest_are(OWN, [])

    def test_pings_go_out_with_marks_by_chance(self):
        self.knows([(FRIEND, 5), (OTHER, 6)])
        self.does(ping_call(FRIEND))
        self.does(ping_call(KEY), -1)
        self.does(ping_call(OTHER))
        self.sends(5, letter_bytes(0, MARKS[0], OWN))
        self.sends(6, letter_bytes(0, MARKS[1], OWN))
        self.sends_no_more()

    def test_a_search_goes_on_as_time_goes_by(self):
        people = [(KEY ^ distance, distance) for distance in (1, 2, 3, 4, 5)]
        self.knows(people)
        self.does(search_call(KEY))
        for k in range(3):
            self.sends(k + 1, letter_bytes(2, MARKS[k], OWN, name_bytes(KEY)))
        self.sends_no_more()
        self.does(time_call(999))
        self.sends_no_more()
        self.does(time_call(1))
        for k in (3, 4):
            self.sends(k + 1, letter_bytes(2, MARKS[k], OWN, name_bytes(KEY)))
        self.sends_no_more()
        self.does(come_call(5, letter_bytes(3, MARKS[4], KEY ^ 5, b"\x00")), 1)
        self.does(result_call(-1), -3)
        self.does(time_call(1000))
        self.does(result_call(0), 1, *someone_bytes(KEY ^ 5, 5))
        self.does(result_call(1), -1)

    def test_two_searches_whose_letters_are_late_at_once(self):
        people = [(KEY ^ distance, distance) for distance in (1, 2, 3)]
        self.knows(people)
        self.does(search_call(KEY, 1))
        self.does(come_call(2, letter_bytes(5, MARKS[1], KEY ^ 2, value_bytes(b"value"))), 1)
        self.does(value_call(5), 5, *b"value")
        self.does(search_call(KEY, 0))
        self.does(result_call(-1), -3)
        self.does(time_call(1000))
        self.does(result_call(-1), *[0] * 27)
        self.does(value_call(5), -3)
        self.nearest_are(KEY, people[1:2])


if __name__ == "__main__":
    unittest.main()
