"""The interface: how calls stand in the one list, and answers in the list that is given back."""

import unittest

from nearmany.desk import answers
from tests.helper import (
    HIGHEST_ADDRESS,
    HIGHEST_SEED,
    OWN,
    begin_call,
    chance_numbers,
    come_call,
    in_bucket,
    know_call,
    letter_bytes,
    name_bytes,
    near_call,
    own_call,
    ping_call,
    result_call,
    search_call,
    send_call,
    someone_bytes,
    store_call,
    time_call,
    value_bytes,
    value_call,
)

FRIEND = in_bucket(5)
STRANGER = in_bucket(6)


MARKS = chance_numbers(7, 4)
# Every call, with what it answers, a refusal of each among them.
EVERY = (
    (begin_call(), [0]),
    (own_call(OWN, 7), [0]),
    (know_call(FRIEND, 9), [0]),
    (know_call(OWN, 9), [-1]),
    (ping_call(FRIEND), [0]),
    (ping_call(STRANGER), [-1]),
    (come_call(4, letter_bytes(0, 1, STRANGER)), [1]),
    (come_call(4, b""), [-1]),
    (come_call(4, b"\x09"), [0]),
    (result_call(-1), [-3]),
    (value_call(4096), [-3]),
    (search_call(STRANGER, 1), [0]),
    (search_call(STRANGER, 1), [-2]),
    (store_call(FRIEND, STRANGER, b"abc"), [0]),
    (store_call(OWN, STRANGER, b"abc"), [-1]),
    (near_call(STRANGER, 1), [2, *someone_bytes(FRIEND, 9)]),
    (near_call(STRANGER, 2), [-1]),
    (send_call(34), [-2]),
    (send_call(35), [35, 0, 0, 0, 0, 0, 9, *letter_bytes(0, MARKS[0], OWN)]),
    (send_call(35), [35, 0, 0, 0, 0, 0, 4, *letter_bytes(1, 1, OWN)]),
    (send_call(55), [55, 0, 0, 0, 0, 0, 4, *letter_bytes(4, MARKS[1], OWN, name_bytes(STRANGER))]),
    (send_call(55), [55, 0, 0, 0, 0, 0, 9, *letter_bytes(4, MARKS[2], OWN, name_bytes(STRANGER))]),
    (
        send_call(60),
        [60, 0, 0, 0, 0, 0, 9, *letter_bytes(6, MARKS[3], OWN, name_bytes(STRANGER) + value_bytes(b"abc"))],
    ),
    (send_call(4096), [-3]),
    (come_call(4, letter_bytes(5, MARKS[1], STRANGER, value_bytes(b"xyz"))), [1]),
    (result_call(-1), [0] * 27),
    (result_call(0), [-1]),
    (value_call(2), [-2]),
    (value_call(3), [3, *b"xyz"]),
    (search_call(FRIEND, 0), [0]),
    (time_call(1000), [0]),
    (time_call(-1), [-1]),
    (near_call(OWN, 0), [1, *someone_bytes(STRANGER, 4)]),
)


def every_call():
    return [number for call, answer in EVERY for number in call]


EVERY_ANSWER = [number for call, answer in EVERY for number in (len(answer), *answer)]


def with_counts(numbers):
    return [each for number in numbers for each in (1, number)]


class Interface(unittest.TestCase):
    def test_no_calls(self):
        self.assertEqual(answers([]), [])

    def test_each_call_by_itself(self):
        self.assertEqual(answers([0]), [1, 0])
        self.assertEqual(answers([0, 0]), [1, 0, 1, 0])
        self.assertEqual(answers([0, 1, 5, 20] + [3] * 20), [1, 0, 1, 0])
        self.assertEqual(answers([0, 2, 5, 20] + [3] * 20), [1, 0, 1, 0])
        self.assertEqual(answers([0, 3, 5, 2, 0, 0]), [1, 0, 1, 0])
        self.assertEqual(answers([0, 4, 17]), [1, 0, 1, 0])
        self.assertEqual(answers([0, 5, 20] + [3] * 20), [1, 0, 1, -1])
        self.assertEqual(answers([0, 6, 0, 20] + [3] * 20), [1, 0, 1, -3])
        self.assertEqual(answers([0, 7, 0]), [1, 0, 1, -3])
        self.assertEqual(answers([0, 8, 1]), [1, 0, 1, -3])
        self.assertEqual(answers([0, 9, 20] + [3] * 20 + [20] + [4] * 20 + [2, 5, 6]), [1, 0, 1, -1])
        self.assertEqual(answers([0, 9, 20] + [3] * 20 + [20] + [4] * 20 + [0]), [1, 0, 1, -1])
        self.assertEqual(answers([0, 10, 1]), [1, 0, 1, -3])
        self.assertEqual(answers([0, 11, 0, 20] + [3] * 20), [1, 0, 1, -1])

    def test_several_calls_in_one_list(self):
        self.assertEqual(answers(every_call()), EVERY_ANSWER)

    def test_the_highest_numbers_are_read_whole(self):
        calls = begin_call() + own_call(OWN, HIGHEST_SEED) + know_call(FRIEND, HIGHEST_ADDRESS)
        calls += know_call(FRIEND, 2**64 - 1) + time_call(2147483647) + time_call(-2147483648)
        self.assertEqual(answers(calls), with_counts([0, 0, 0, -1, -1, -1]))

    def test_begin_once_more(self):
        calls = begin_call() + know_call(FRIEND, 9) + ping_call(FRIEND) + begin_call() + ping_call(FRIEND)
        self.assertEqual(answers(calls), with_counts([0, 0, 0, 0, -1]))

    def test_own_once_more(self):
        calls = begin_call() + own_call(OWN, 1) + know_call(FRIEND, 9) + know_call(OWN, 9)
        calls += own_call(FRIEND, 2) + ping_call(FRIEND) + know_call(FRIEND, 9) + know_call(OWN, 9)
        self.assertEqual(answers(calls), with_counts([0, 0, 0, -1, 0, -1, -1, 0]))

    def test_the_highest_byte_of_a_name_comes_first(self):
        first = [1] + [0] * 19
        last = [0] * 19 + [1]
        calls = begin_call() + [2, 9, 20] + first + [5, 20] + last + [5, 20] + first
        self.assertEqual(answers(calls), with_counts([0, 0, -1, 0]))

    def test_calls_are_as_they_were(self):
        calls = every_call()
        answers(calls)
        self.assertEqual(calls, every_call())

    def test_a_second_time_is_as_the_first(self):
        calls = every_call()
        self.assertEqual(answers(calls), answers(calls))

    def test_nothing_is_kept_from_one_list_to_the_next(self):
        answers(begin_call() + know_call(FRIEND, 9))
        self.assertEqual(answers(begin_call() + ping_call(FRIEND)), with_counts([0, -1]))
        self.assertEqual(answers(ping_call(FRIEND)), with_counts([-1]))

    def test_what_is_given_back_is_ones_own(self):
        given = answers(every_call())
        given.clear()
        self.assertEqual(answers(every_call()), EVERY_ANSWER)

    def test_whole_numbers_are_never_true_or_false(self):
        for each in answers(every_call()):
            self.assertIs(type(each), int)

    def test_three_hundred_calls_and_a_letter_of_the_most_bytes(self):
        calls = begin_call() + come_call(1, bytes(1024)) + time_call(1) * 298
        self.assertEqual(answers(calls), with_counts([0, 0] + [0] * 298))


if __name__ == "__main__":
    unittest.main()
