"""Promise 7: search, whom it asks at first, and its refusals."""

import unittest

from tests.helper import OWN, Line, chance_numbers, in_bucket, letter_bytes, name_bytes, people_bytes, value_bytes
from tests.searching import TARGET, SearchTest, knowing, people, person

FRIEND = in_bucket(40)
STRANGER = in_bucket(41)


def asked_letters(kind, distances, first=0):
    """The letters that are due, and where to, if these are asked one behind another."""
    marks = chance_numbers(0, first + len(distances))[first:]
    return [
        (100 + distance, letter_bytes(kind, mark, OWN, name_bytes(TARGET)))
        for distance, mark in zip(distances, marks)
    ]


class Begins(SearchTest):
    def test_with_a_value_of_0_those_near_are_asked_for(self):
        line = knowing([1])
        self.assertEqual(line.search(TARGET, 0), 0)
        self.assertEqual(line.sent(), asked_letters(2, [1]))

    def test_with_any_other_value_a_value_is_asked_for(self):
        for value in (1, -1, 2, 256, -256, 2147483647, -2147483648):
            line = knowing([1])
            self.assertEqual(line.search(TARGET, value), 0)
            self.assertEqual(line.sent(), asked_letters(4, [1]))

    def test_whom_it_asks_in_which_order(self):
        for known, asked in (
            ([9], [9]),
            ([9, 3], [3, 9]),
            ([9, 3, 6], [3, 6, 9]),
            ([9, 3, 6, 1], [1, 3, 6]),
            ([8, 7, 6, 5, 4, 3, 2, 1], [1, 2, 3]),
        ):
            for value, kind in ((0, 2), (1, 4)):
                line = knowing(known)
                self.assertEqual(line.search(TARGET, value), 0)
                self.assertEqual(line.sent(), asked_letters(kind, asked))

    def test_where_more_than_eight_are_known(self):
        line = Line()
        names = [in_bucket(bit, bit) for bit in range(60, 80)]
        for place, name in enumerate(names):
            line.know(name, place)
        target = in_bucket(70, 12345)
        line.search(target)
        near = sorted(names, key=lambda name: name ^ target)[:3]
        self.assertEqual([(to, octets[0], octets[29:]) for to, octets in line.sent()],
                         [(names.index(name), 2, name_bytes(target)) for name in near])

    def test_only_the_eight_nearest_are_found_at_first(self):
        line = Line()
        names = [in_bucket(bit) for bit in range(60, 80)]
        for name in names:
            line.know(name, 5)
        line.search(OWN)
        for k in range(3):
            line.time(1000)
        self.assertEqual(line.outcome(), ([], None))
        self.assertEqual(len(line.sent()), 8)

    def test_those_who_wait_are_not_asked(self):
        line = knowing(range(10, 18))
        line.know(person(1), 101)
        line.search(TARGET)
        self.assertEqual(line.sent(), asked_letters(2, [10, 11, 12]))

    def test_who_was_silent_once_is_asked(self):
        line = knowing([1, 2])
        line.ping(person(1))
        line.time(1000)
        line.sent()
        line.search(TARGET)
        self.assertEqual(line.sent(), asked_letters(2, [1, 2], 1))

    def test_the_own_name_may_be_searched(self):
        line = knowing([1])
        self.assertEqual(line.search(OWN), 0)
        mark = chance_numbers(0, 1)[0]
        self.assertEqual(line.sent(), [(101, letter_bytes(2, mark, OWN, name_bytes(OWN)))])

    def test_a_name_that_is_known_itself_may_be_searched(self):
        line = knowing([0, 1])
        self.assertEqual(line.search(TARGET), 0)
        self.assertEqual(line.sent(), asked_letters(2, [0, 1]))

    def test_the_highest_byte_of_the_name_comes_first(self):
        line = knowing([1])
        line.call([6, 0, 20, *range(1, 21)])
        self.assertEqual(line.sent()[0][1][29:], bytes(range(1, 21)))

    def test_nobody_is_heard_by_it(self):
        line = knowing([3, 1, 2])
        line.search(TARGET)
        self.assertEqual(line.everyone_known(), people([3, 1, 2]))


class OneIsGoingOn(SearchTest):
    def test_another_is_refused(self):
        line = self.search([1, 2, 3, 4])
        before = line.held()
        for name in (TARGET, OWN, FRIEND):
            for value in (0, 1):
                self.assertEqual(line.search(name, value), -2)
        self.assertEqual(line.held(), before)

    def test_till_it_is_over(self):
        line = self.search([1])
        line.time(999)
        self.assertEqual(line.search(TARGET), -2)
        line.time(1)
        self.assertEqual(line.search(TARGET), 0)
        self.assertEqual(line.search(TARGET), -2)

    def test_where_nobody_is_known_any_more_it_is_told_first(self):
        line = knowing([1])
        line.ping(person(1))
        line.ping(person(1))
        line.time(500)
        line.search(TARGET)
        self.line = line
        self.these_are(1, [2])
        line.time(500)
        self.assertEqual(line.near(TARGET, 0), [-1])
        before = line.held()
        self.assertEqual(line.search(TARGET), -2)
        self.assertEqual(line.held(), before)
        line.time(499)
        self.assertEqual(line.search(TARGET), -2)
        line.time(1)
        self.assertEqual(line.search(TARGET), -3)


class LettersThatAreOpen(SearchTest):
    def line_with_open(self, how_many):
        line = knowing([1, 2])
        for k in range(how_many):
            self.assertEqual(line.ping(person(2)), 0)
        line.sent()
        return line

    def test_63(self):
        line = self.line_with_open(63)
        self.assertEqual(line.search(TARGET), 0)
        self.assertEqual(line.sent(), asked_letters(2, [1, 2], 63))

    def test_64(self):
        line = self.line_with_open(64)
        before = line.held()
        self.assertEqual(line.search(TARGET), -2)
        self.assertEqual(line.search(TARGET, 1), -2)
        self.assertEqual(line.held(), before)

    def test_more_than_64(self):
        line = self.line_with_open(63)
        line.search(TARGET, 1)
        self.line = line
        self.comes(1, 5, value_bytes(b"value"))
        self.assertEqual(line.search(TARGET), -2)
        line.time(1000)
        self.assertEqual(line.search(TARGET), 0)

    def test_more_than_64_for_a_search_too(self):
        line = knowing([1, 2, 3, 4])
        for k in range(63):
            self.assertEqual(line.ping(person(4)), 0)
        line.search(TARGET, 1)
        self.line = line
        self.comes(1, 5, value_bytes(b"value"))
        self.assertEqual(len(line.open_letters()), 65)
        before = line.held()
        self.assertEqual(line.search(TARGET), -2)
        self.assertEqual(line.ping(person(4)), -2)
        self.assertEqual(line.store(person(4), TARGET, b""), -2)
        self.assertEqual(line.held(), before)
        self.these_are(2, [])
        self.assertEqual(line.search(TARGET), -2)
        self.these_are(3, [])
        self.assertEqual(line.search(TARGET), 0)

    def test_where_one_is_answered_there_is_room(self):
        line = self.line_with_open(64)
        line.come(102, letter_bytes(1, chance_numbers(0, 1)[0], person(2)))
        self.assertEqual(line.search(TARGET), 0)

    def test_they_are_open_whether_sent_or_not(self):
        line = knowing([1])
        for k in range(64):
            line.ping(person(1))
        self.assertEqual(line.search(TARGET), -2)


class NobodyIsKnown(unittest.TestCase):
    def test_refused(self):
        line = Line()
        before = line.held()
        for value in (0, 1, -1):
            self.assertEqual(line.search(TARGET, value), -3)
        self.assertEqual(line.search(OWN), -3)
        self.assertEqual(line.held(), before)
        self.assertEqual(line.result(-1), [-3])

    def test_then_someone_is(self):
        line = Line()
        line.search(TARGET)
        line.know(FRIEND, 5)
        self.assertEqual(line.search(TARGET), 0)


class TheResultOfAnEarlierOne(SearchTest):
    def over(self, for_value=False):
        line = self.search([1, 2], for_value)
        if for_value:
            self.comes(1, 5, value_bytes(b"value"))
        self.these_are(2, [])
        if not for_value:
            self.these_are(1, [])
        return line

    def test_is_none_till_the_new_one_is_over(self):
        for for_value in (False, True):
            line = self.over(for_value)
            self.assertIsNotNone(line.outcome())
            line.search(TARGET)
            self.is_going_on()
            self.these_are(2, [])
            self.is_going_on()
            line.time(1000)
            self.is_over_with([2])

    def test_a_value_behind_people(self):
        line = self.over()
        line.search(TARGET, 1)
        self.comes(2, 5, value_bytes(b"newer"))
        self.is_over_with([], b"newer")

    def test_a_value_behind_a_value(self):
        line = self.over(True)
        line.search(TARGET, 1)
        self.is_going_on()
        self.comes(2, 5, value_bytes(b"newer"))
        self.is_over_with([], b"newer")

    def test_people_behind_a_value_that_is_not_found_again(self):
        line = self.over(True)
        line.search(TARGET, 1)
        self.these_are(1, [])
        self.these_are(2, [])
        self.is_over_with([1, 2])

    def test_stays_where_a_new_one_is_refused_for_open_letters(self):
        for for_value in (False, True):
            line = self.over(for_value)
            before = line.outcome()
            for k in range(64):
                line.ping(person(1))
            self.assertEqual(line.search(TARGET), -2)
            self.assertEqual(line.outcome(), before)

    def test_stays_where_a_new_one_is_refused_for_want_of_anyone_known(self):
        for for_value in (False, True):
            line = self.over(for_value)
            before = line.outcome()
            for name in (person(1), person(1), person(2), person(2)):
                line.ping(name)
            line.time(1000)
            self.assertEqual(line.search(TARGET), -3)
            self.assertEqual(line.outcome(), before)

    def test_is_not_changed_by_what_is_heard_later(self):
        line = self.over()
        line.time(10000000)
        for name, address in people(range(3, 9)):
            line.know(name, address)
        line.ping(person(1))
        line.ping(person(1))
        line.time(1000)
        line.come(9, letter_bytes(2, 0, STRANGER, name_bytes(TARGET)))
        self.is_over_with([1, 2])

    def test_is_of_the_later_search_whose_name_is_another(self):
        line = self.over()
        line.search(person(7), 0)
        for distance in (2, 1):
            self.comes(distance, 3, people_bytes([]))
        self.is_over_with([2, 1])


if __name__ == "__main__":
    unittest.main()
