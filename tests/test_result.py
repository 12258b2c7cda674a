"""Promise 8: result."""

import unittest

from tests.helper import Line, begin_call, in_bucket, letter_bytes, own_call, someone_bytes, value_bytes
from tests.searching import TARGET, SearchTest, person

NO_KTH = (-2, -3, -2147483648, 2147483647)


class Result(SearchTest):
    def no_result(self):
        before = self.line.held()
        for k in (-2, -1, 0, 1, 7, 8, -2147483648, 2147483647):
            self.assertEqual(self.line.result(k), [-3])
        self.assertEqual(self.line.held(), before)

    def result_is(self, distances):
        """Each k, from the first to one more than the last, and those that are far off."""
        before = self.line.held()
        self.assertEqual(self.line.result(-1), [len(distances)] + [0] * 26)
        for k, distance in enumerate(distances):
            self.assertEqual(
                self.line.result(k), [len(distances), *someone_bytes(person(distance), 100 + distance)]
            )
        for k in (len(distances), len(distances) + 1, *NO_KTH):
            self.assertEqual(self.line.result(k), [-1])
        self.assertEqual(self.line.held(), before)

    def test_before_any_search(self):
        self.line = Line()
        self.no_result()
        self.line.know(person(1), 101)
        self.no_result()

    def test_behind_a_search_that_was_refused(self):
        self.line = Line()
        self.assertEqual(self.line.search(TARGET), -3)
        self.no_result()

    def test_while_one_goes_on(self):
        for for_value in (False, True):
            self.search([1, 2, 3, 4, 5], for_value)
            self.no_result()
            self.these_are(1, [])
            self.no_result()
            self.line.time(1000)
            self.no_result()
            self.line.time(1000)
            self.result_is([1])

    def test_one(self):
        self.search([5])
        self.these_are(5, [])
        self.result_is([5])

    def test_several_the_nearest_first(self):
        self.search([5, 3, 1])
        for distance in (3, 5, 1):
            self.these_are(distance, [])
        self.result_is([1, 3, 5])

    def test_eight(self):
        self.search([9, 8, 7, 6, 5, 4, 3, 2])
        self.these_are(2, [1])
        for distance in (3, 4, 1, 5, 6, 7, 8):
            self.these_are(distance, [])
        self.result_is(range(1, 9))

    def test_nobody(self):
        self.search([1, 2, 3])
        self.line.time(1000)
        self.result_is([])

    def test_behind_a_value(self):
        self.search([1, 2, 3], True)
        self.comes(1, 5, value_bytes(b"value"))
        self.result_is([])

    def test_behind_a_search_for_a_value_that_was_not_found(self):
        self.search([1, 2], True)
        self.these_are(2, [])
        self.these_are(1, [])
        self.result_is([1, 2])

    def test_how_it_stands_in_bytes(self):
        line = Line(0)
        name = int.from_bytes(range(1, 21), "big")
        line.know(name, 0xA1B2C3D4E5F6)
        line.search(0)
        kind, mark, to, address = line.open_letters()[0]
        line.come(address, letter_bytes(3, mark, name, b"\x00"))
        self.assertEqual(line.result(0), [1, *range(1, 21), 0xA1, 0xB2, 0xC3, 0xD4, 0xE5, 0xF6])

    def test_the_address_is_that_which_was_found(self):
        self.search([2, 3])
        other = someone_bytes(person(1), 2**48 - 1)
        self.comes(2, 3, b"\x01" + other)
        self.line.know(person(1), 5)
        self.these_are(3, [])
        mark = self.marks(1)[0]
        self.line.come(2**48 - 1, letter_bytes(3, mark, person(1), b"\x00"))
        self.assertEqual(self.line.result(0), [3, *other])

    def test_none_behind_begin_and_own(self):
        for call in (begin_call(), own_call(in_bucket(7), 3)):
            self.search([1])
            self.these_are(1, [])
            self.assertEqual(self.line.call(call), 0)
            self.no_result()

    def test_it_may_be_asked_again(self):
        self.search([1])
        self.these_are(1, [])
        self.result_is([1])
        self.result_is([1])


if __name__ == "__main__":
    unittest.main()
