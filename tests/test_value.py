"""Promise 9: value."""

import unittest

from tests.helper import Line, begin_call, own_call, value_bytes
from tests.searching import TARGET, SearchTest, person

OUTSIDE = (0, -1, -4096, -2147483648, 4097, 4098, 2147483647)
EVERY_MOST = (1, 2, 512, 4095, 4096, *OUTSIDE)


class Value(SearchTest):
    def no_value(self):
        before = self.line.held()
        for most in EVERY_MOST:
            self.assertEqual(self.line.value(most), [-3])
        self.assertEqual(self.line.held(), before)

    def value_found(self, value):
        self.search([1, 2, 3, 4], True)
        self.comes(2, 5, value_bytes(value))

    def test_before_any_search(self):
        self.line = Line()
        self.no_value()

    def test_while_one_goes_on(self):
        for for_value in (False, True):
            self.search([1, 2, 3, 4], for_value)
            self.no_value()

    def test_behind_a_search_for_people(self):
        self.search([1])
        self.these_are(1, [])
        self.no_value()

    def test_behind_a_search_for_people_that_was_told_a_value(self):
        self.search([1])
        self.comes(1, 5, value_bytes(b"value"))
        self.is_over_with([1])
        self.no_value()

    def test_behind_a_search_for_a_value_that_was_not_found(self):
        self.search([1], True)
        self.these_are(1, [])
        self.no_value()

    def test_a_result_of_nobody_is_no_value(self):
        for for_value in (False, True):
            self.search([1], for_value)
            self.line.time(1000)
            self.assertEqual(self.line.result(-1)[0], 0)
            self.no_value()

    def test_lengths(self):
        for length in (1, 2, 255, 256, 511, 512):
            value = bytes(3 * k % 256 for k in range(length))
            self.value_found(value)
            before = self.line.held()
            for most in (length, length + 1, 4095, 4096):
                self.assertEqual(self.line.value(most), [length, *value])
            for most in (length - 1, *OUTSIDE):
                self.assertEqual(self.line.value(most), [-2])
            self.assertEqual(self.line.held(), before)

    def test_a_value_of_0_bytes(self):
        self.value_found(b"")
        for most in EVERY_MOST:
            self.assertEqual(self.line.value(most), [0])

    def test_it_is_there_till_a_new_search_begins(self):
        self.value_found(b"value")
        self.line.time(10000000)
        self.assertEqual(self.line.value(5), [5, *b"value"])
        self.assertEqual(self.line.search(TARGET), 0)
        self.no_value()

    def test_a_value_that_one_keeps_oneself_is_not_looked_at(self):
        self.search([1], True)
        self.line.keep(TARGET, b"kept", person(1))
        self.these_are(1, [])
        self.no_value()

    def test_the_value_is_not_kept(self):
        self.value_found(b"value")
        self.assertEqual(self.line.kept(), {})

    def test_none_behind_begin_and_own(self):
        for call in (begin_call(), own_call(TARGET, 3)):
            self.value_found(b"value")
            self.assertEqual(self.line.call(call), 0)
            self.no_value()


if __name__ == "__main__":
    unittest.main()
