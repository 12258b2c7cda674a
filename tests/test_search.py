"""A search as it goes on: what letters that come, and time that goes by, do to it."""

import unittest

from nearmany.search import ANSWERED, ASKED, NOT_ASKED, SILENT
from tests.helper import OWN, chance_numbers, in_bucket, letter_bytes, name_bytes, people_bytes, value_bytes
from tests.searching import BUCKET, TARGET, SearchTest, knowing, people, person


class GoingOn(SearchTest):
    def test_three_are_asked_at_first(self):
        line = self.search([50, 10, 40, 20, 30])
        self.assertEqual(self.in_state(ASKED), [10, 20, 30])
        self.assertEqual(self.in_state(NOT_ASKED), [40, 50])
        marks = chance_numbers(0, 3)
        self.assertEqual(
            line.sent(),
            [
                (100 + distance, letter_bytes(2, mark, OWN, name_bytes(TARGET)))
                for distance, mark in zip((10, 20, 30), marks)
            ],
        )
        self.assertEqual(
            line.open_letters(),
            [(2, mark, person(distance), 100 + distance) for distance, mark in zip((10, 20, 30), marks)],
        )

    def test_a_search_for_a_value_asks_for_it(self):
        line = self.search([1, 2, 3, 4], True)
        self.assertEqual([octets[0] for address, octets in line.outgoing()], [4, 4, 4])
        self.assertEqual([octets[29:] for address, octets in line.outgoing()], [name_bytes(TARGET)] * 3)
        self.assertEqual([each[0] for each in line.open_letters()], [4, 4, 4])

    def test_of_fewer_all_are_asked(self):
        self.search([7, 9])
        self.assertEqual(self.in_state(ASKED), [7, 9])

    def test_an_answer_lets_the_next_be_asked(self):
        line = self.search([1, 2, 3, 4, 5])
        line.sent()
        self.these_are(2, [])
        self.assertEqual(self.states(), {1: ASKED, 2: ANSWERED, 3: ASKED, 4: ASKED, 5: NOT_ASKED})
        mark = chance_numbers(0, 4)[3]
        self.assertEqual(line.sent(), [(104, letter_bytes(2, mark, OWN, name_bytes(TARGET)))])

    def test_who_answers_is_heard(self):
        line = self.search([1, 2, 3, 4])
        self.these_are(1, [])
        self.assertEqual(line.known_names(BUCKET), [person(distance) for distance in (2, 3, 4, 1)])

    def test_only_an_answer_to_its_letter_counts(self):
        self.search([1, 2, 3, 4])
        before = self.line.held()
        self.comes(1, 3, people_bytes(people([9])), mark=5)
        self.comes(1, 1, b"")
        self.comes(1, 7, b"")
        self.assertEqual(self.line.held(), before)

    def test_an_answer_to_a_ping_is_not_the_searchs(self):
        line = self.search([1, 2, 3, 4])
        before = self.states()
        line.ping(person(1))
        self.comes(1, 1, b"")
        self.assertEqual(self.states(), before)
        self.assertEqual(len(line.open_letters()), 3)

    def test_a_late_ping_is_not_the_searchs(self):
        line = knowing([1, 2, 3, 4])
        line.ping(person(1))
        line.time(500)
        self.assertEqual(line.search(TARGET), 0)
        self.line = line
        line.time(500)
        self.assertEqual(self.states(), {1: ASKED, 2: ASKED, 3: ASKED, 4: NOT_ASKED})
        self.assertEqual(len(line.open_letters()), 3)

    def test_a_letter_lost_for_want_of_room_is_asked_all_the_same(self):
        line = knowing([1, 2, 3, 4])
        for mark in range(256):
            line.come(9, letter_bytes(0, mark, in_bucket(3)))
        self.assertEqual(line.search(TARGET), 0)
        self.assertEqual(len(line.open_letters()), 3)
        self.assertEqual(len(line.outgoing()), 256)

    def test_more_than_64_may_be_open(self):
        line = knowing([1, 2, 3, 4])
        for k in range(63):
            line.ping(person(4))
        self.assertEqual(line.search(TARGET), 0)
        self.line = line
        self.these_are(1, [])
        self.assertEqual(len(line.open_letters()), 66)


class Finding(SearchTest):
    def test_those_in_an_answer_are_found_in_order(self):
        self.search([10, 20, 30])
        self.these_are(20, [25, 5, 15])
        self.assertEqual(list(self.states()), [5, 10, 15, 20, 25, 30])
        self.assertEqual(self.states(), {5: ASKED, 10: ASKED, 15: NOT_ASKED, 20: ANSWERED, 25: NOT_ASKED, 30: ASKED})
        self.assertIn((person(15), 115, NOT_ASKED), self.line.found())

    def test_not_oneself(self):
        self.search([10, 20, 30])
        self.comes(20, 3, people_bytes([(OWN, 1), (person(15), 115), (OWN, 2)]))
        self.assertEqual(list(self.states()), [10, 15, 20, 30])

    def test_nobody_whose_name_has_been_found(self):
        self.search([10, 20, 30])
        self.comes(20, 3, people_bytes([(person(10), 9), (person(15), 1), (person(15), 2), (person(20), 3)]))
        found = [(name ^ TARGET, address) for name, address, state in self.line.found()]
        self.assertEqual(found, [(10, 110), (15, 1), (20, 120), (30, 130)])
        self.assertEqual(self.states()[20], ANSWERED)

    def test_nobody_who_was_silent(self):
        self.search([10, 20])
        self.line.time(600)
        self.these_are(10, [30])
        self.line.time(400)
        self.assertEqual(self.states(), {10: ANSWERED, 20: SILENT, 30: ASKED})
        self.these_are(30, [20, 40])
        self.assertEqual(self.states(), {10: ANSWERED, 20: SILENT, 30: ANSWERED, 40: ASKED})

    def test_the_one_that_is_searched_may_be_found(self):
        self.search([10])
        self.these_are(10, [0])
        self.assertEqual(self.states(), {0: ASKED, 10: ANSWERED})

    def test_those_found_are_not_heard(self):
        self.search([10])
        before = sorted(self.line.everyone_known())
        self.these_are(10, [5])
        self.assertEqual(sorted(self.line.everyone_known()), before)

    def test_of_kind_3_to_a_value_wanted(self):
        self.search([10], True)
        self.these_are(10, [5])
        self.assertEqual(self.states(), {5: ASKED, 10: ANSWERED})
        self.assertEqual(self.line.open_letters()[0][0], 4)

    def found_with_64(self):
        """Each answers with eight that are nearer, so that all are found."""
        self.search(range(1001, 1009))
        base = 1000
        while len(self.states()) < 56:
            base -= 8
            asked = self.in_state(ASKED)[0]
            self.these_are(asked, range(base, base + 8))
        return base

    def test_64_are_found_and_no_more(self):
        base = self.found_with_64()
        self.assertEqual(len(self.states()), 56)
        asked = self.in_state(ASKED)
        self.these_are(asked[0], range(base - 7, base))
        self.assertEqual(len(self.states()), 63)
        before = list(self.states())
        self.these_are(asked[1], [before[0], 2, 1])
        self.assertEqual(list(self.states()), [2] + before)
        self.these_are(asked[2], [1])
        self.assertEqual(list(self.states()), [2] + before)

    def test_the_64th_is_the_first_of_those_told(self):
        base = self.found_with_64()
        asked = self.in_state(ASKED)
        self.these_are(asked[0], range(base - 7, base))
        self.these_are(asked[1], [900000, 1, 2])
        self.assertEqual(list(self.states())[-1], 900000)
        self.assertEqual(len(self.states()), 64)


class Far(SearchTest):
    def test_those_who_are_farther_are_counted_where_there_are_few(self):
        self.search([1, 2, 3])
        self.these_are(1, [60, 50])
        self.assertEqual(self.states(), {1: ANSWERED, 2: ASKED, 3: ASKED, 50: ASKED, 60: NOT_ASKED})
        for distance in (2, 3, 50, 60):
            self.these_are(distance, [])
        self.is_over_with([1, 2, 3, 50, 60])

    def test_those_who_are_farther_than_eight_are_not_asked(self):
        line = self.search(range(1, 9))
        self.these_are(1, range(51, 59))
        for distance in range(2, 9):
            self.these_are(distance, [distance + 60])
        self.is_over_with(range(1, 9))
        self.assertEqual(len(line.sent()), 8)

    def test_who_is_told_with_another_address_is_asked_where_they_were_first(self):
        line = self.search([5])
        self.comes(5, 3, people_bytes([(person(1), 9), (person(1), 8)]))
        line.send()
        self.assertEqual(line.sent(), [(9, letter_bytes(2, chance_numbers(0, 2)[1], OWN, name_bytes(TARGET)))])


class Counted(SearchTest):
    def test_only_the_first_eight_are_asked(self):
        self.search([11, 12, 13])
        self.these_are(11, range(1, 9))
        self.assertEqual(self.in_state(ASKED), [1, 12, 13])
        for distance in (12, 13):
            self.these_are(distance, [14, 15])
        for distance in range(1, 9):
            self.these_are(distance, [])
        self.is_over_with(range(1, 9))

    def test_one_asked_who_is_counted_no_longer_is_waited_for(self):
        self.search([11, 12, 13])
        self.these_are(11, range(1, 9))
        for distance in range(1, 9):
            self.these_are(distance, [])
        self.assertEqual(self.in_state(ASKED), [12, 13])
        self.is_going_on()
        self.these_are(13, [])
        self.is_going_on()
        self.these_are(12, [])
        self.is_over_with(range(1, 9))

    def test_one_found_late_by_one_who_is_counted_no_longer(self):
        self.search([11, 12, 13])
        self.these_are(11, range(2, 10))
        for distance in range(2, 10):
            self.these_are(distance, [])
        self.these_are(12, [1])
        self.assertEqual(self.in_state(ASKED), [1, 13])
        self.these_are(13, [])
        self.these_are(1, [])
        self.is_over_with(range(1, 9))

    def test_three_asked_are_three_though_they_are_counted_no_longer(self):
        self.search([11, 12, 13])
        self.these_are(11, range(1, 9))
        self.assertEqual(len(self.in_state(ASKED)), 3)
        self.assertEqual(len(self.line.open_letters()), 3)

    def test_where_one_is_silent_the_ninth_is_counted(self):
        self.search([11, 12, 13])
        self.these_are(11, range(1, 9))
        for distance in (12, 13):
            self.these_are(distance, [])
        for distance in range(1, 8):
            self.these_are(distance, [])
        self.assertEqual(self.in_state(ASKED), [8])
        self.line.time(1000)
        self.is_over_with([1, 2, 3, 4, 5, 6, 7, 11])

    def test_where_one_is_silent_the_ninth_is_asked(self):
        self.search([21, 22, 23])
        self.these_are(21, [1, 2, 3, 4, 5, 6, 7, 8])
        self.these_are(1, [9])
        self.these_are(22, [])
        self.these_are(23, [])
        for distance in range(2, 8):
            self.these_are(distance, [])
        self.assertEqual(self.in_state(NOT_ASKED), [9])
        self.line.time(1000)
        self.assertEqual(self.in_state(ASKED), [9])
        self.these_are(9, [])
        self.is_over_with([1, 2, 3, 4, 5, 6, 7, 9])


class Over(SearchTest):
    def test_when_all_have_answered(self):
        self.search([3, 1, 2])
        self.these_are(1, [])
        self.these_are(3, [])
        self.is_going_on()
        self.these_are(2, [])
        self.is_over_with([1, 2, 3])

    def test_when_all_are_silent(self):
        self.search([1, 2])
        self.line.time(1000)
        self.is_over_with([])

    def test_with_a_value(self):
        line = self.search([1, 2, 3, 4], True)
        line.sent()
        self.comes(2, 5, value_bytes(b"value"))
        self.is_over_with([], b"value")
        self.assertEqual(line.outgoing(), [])

    def test_with_an_empty_value(self):
        self.search([1], True)
        self.comes(1, 5, value_bytes(b""))
        self.is_over_with([], b"")

    def test_a_value_is_nothing_to_a_search_for_the_nearest(self):
        self.search([1, 2, 3, 4])
        self.comes(2, 5, value_bytes(b"value"))
        self.is_going_on()
        self.assertEqual(self.states(), {1: ASKED, 2: ANSWERED, 3: ASKED, 4: ASKED})
        for distance in (1, 3, 4):
            self.these_are(distance, [])
        self.is_over_with([1, 2, 3, 4])

    def test_a_search_for_a_value_that_nobody_has(self):
        self.search([1, 2], True)
        self.these_are(1, [])
        self.these_are(2, [])
        self.is_over_with([1, 2])

    def test_who_tells_the_value_is_heard(self):
        line = self.search([1, 2, 3], True)
        self.comes(2, 5, value_bytes(b"value"))
        self.assertEqual(line.known_names(BUCKET), [person(distance) for distance in (1, 3, 2)])

    def test_its_open_letters_are_no_longer_any_searchs(self):
        line = self.search([1, 2, 3, 4], True)
        self.comes(2, 5, value_bytes(b"value"))
        self.assertEqual(len(line.open_letters()), 2)
        self.these_are(1, [9])
        self.comes(3, 5, value_bytes(b"other"))
        self.assertEqual(line.open_letters(), [])
        self.is_over_with([], b"value")

    def test_its_open_letters_are_late_as_any(self):
        line = self.search([1, 2, 3], True)
        self.comes(1, 5, value_bytes(b"value"))
        line.time(1000)
        self.assertEqual(line.open_letters(), [])
        self.is_over_with([], b"value")
        self.assertEqual(line.silent_once(BUCKET), [person(2), person(3)])

    def test_they_are_not_the_next_searchs_either(self):
        line = self.search([1, 2, 3, 4], True)
        self.comes(2, 5, value_bytes(b"value"))
        old = self.marks(1)[0]
        self.assertEqual(line.search(TARGET), 0)
        self.comes(1, 3, people_bytes(people([9])), mark=old)
        self.assertEqual(self.states(), {1: ASKED, 2: ASKED, 3: ASKED, 4: NOT_ASKED})
        self.is_going_on()


class LateLetters(SearchTest):
    def test_who_is_asked_is_silent_and_the_search_goes_on(self):
        line = self.search([1, 2, 3, 4, 5, 6, 7])
        line.time(999)
        self.assertEqual(self.in_state(ASKED), [1, 2, 3])
        line.time(1)
        self.assertEqual(self.in_state(SILENT), [1, 2, 3])
        self.assertEqual(self.in_state(ASKED), [4, 5, 6])
        self.assertEqual(self.in_state(NOT_ASKED), [7])
        self.assertEqual([each[2] ^ TARGET for each in line.open_letters()], [4, 5, 6])

    def test_who_is_silent_in_the_search_is_silent_in_the_bucket(self):
        line = self.search([1, 2, 3, 4])
        line.time(1000)
        self.assertEqual(line.silent_once(BUCKET), [person(1), person(2), person(3)])

    def test_letters_asked_then_are_open_from_then_on(self):
        line = self.search([1, 2, 3, 4, 5, 6, 7])
        line.time(10000000)
        self.assertEqual(self.in_state(ASKED), [4, 5, 6])
        line.time(999)
        self.assertEqual(self.in_state(ASKED), [4, 5, 6])
        line.time(1)
        self.assertEqual(self.in_state(ASKED), [7])

    def test_time_may_end_the_search(self):
        line = self.search([1, 2, 3, 4])
        self.these_are(1, [])
        line.time(1000)
        self.is_over_with([1])

    def test_a_late_letter_behind_the_searchs_end(self):
        line = self.search([1, 2])
        line.ping(person(1))
        line.ping(person(2))
        line.time(1000)
        self.is_over_with([])
        self.assertEqual(line.open_letters(), [])
        self.assertEqual(line.everyone_known(), [])

    def test_late_letters_on_both_sides_of_the_searchs_end(self):
        line = knowing([1, 2, 3])
        line.ping(person(3))
        line.search(TARGET)
        line.ping(person(2))
        self.line = line
        self.these_are(3, [])
        line.time(1000)
        self.is_over_with([3])
        self.assertEqual(line.open_letters(), [])
        self.assertEqual(line.silent_once(BUCKET), [person(1), person(3)])
        self.assertEqual(line.nearest(TARGET), people([1, 3]))

    def test_letters_of_a_search_that_is_over_late_amid_those_of_another(self):
        line = self.search([1, 2, 3, 4, 5], True)
        self.comes(2, 5, value_bytes(b"value"))
        line.sent()
        self.assertEqual(line.search(TARGET), 0)
        self.assertEqual([to for to, octets in line.sent()], [101, 102, 103])
        line.time(1000)
        self.assertEqual(self.states(), {1: SILENT, 2: SILENT, 3: SILENT, 4: ASKED, 5: ASKED})
        self.assertEqual([to for to, octets in line.sent()], [104, 105])
        self.assertEqual(line.nearest(TARGET), people([2, 4, 5]))

    def test_each_late_letter_lets_one_be_asked(self):
        line = self.search(range(1, 9))
        line.sent()
        line.time(400)
        self.these_are(2, [])
        self.assertEqual([to for to, octets in line.sent()], [104])
        line.time(600)
        self.assertEqual([to for to, octets in line.sent()], [105, 106])
        self.assertEqual(self.in_state(ASKED), [4, 5, 6])
        line.time(400)
        self.assertEqual([to for to, octets in line.sent()], [107])
        self.assertEqual(self.in_state(SILENT), [1, 3, 4])

    def test_late_letters_where_more_than_64_are_open(self):
        line = knowing([1, 2, 3, 4, 5, 6])
        for k in range(63):
            self.assertEqual(line.ping(person(6)), 0)
        self.assertEqual(line.search(TARGET), 0)
        line.sent()
        line.time(1000)
        self.line = line
        self.assertEqual(self.states(), {1: SILENT, 2: SILENT, 3: SILENT, 4: ASKED, 5: ASKED, 6: ASKED})
        self.assertEqual([to for to, octets in line.sent()], [104, 105, 106])
        self.assertEqual(line.nearest(TARGET), people([1, 2, 3, 4, 5]))

    def test_who_is_silent_under_an_address_that_is_not_the_known_one(self):
        line = self.search([5])
        line.know(person(1), 7)
        self.these_are(5, [1])
        line.time(1000)
        self.is_over_with([5])
        self.assertEqual(line.silent_once(BUCKET), [])

    def test_an_answer_behind_a_late_letter_is_nothing(self):
        line = self.search([1, 2, 3, 4])
        mark = self.marks(1)[0]
        line.time(1000)
        before = line.held()
        self.comes(1, 3, people_bytes(people([9])), mark=mark)
        self.assertEqual(line.held(), before)

    def test_the_marks_go_on_in_the_order_of_asking(self):
        line = self.search([1, 2, 3, 4, 5])
        line.time(1000)
        marks = chance_numbers(0, 5)
        self.assertEqual([each[1:3] for each in line.open_letters()], [(marks[3], person(4)), (marks[4], person(5))])


if __name__ == "__main__":
    unittest.main()
