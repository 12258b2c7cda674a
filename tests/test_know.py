"""Promise 3, know, and with it who's heard: the buckets."""

import unittest

from tests.helper import HIGHEST_ADDRESS, NAMES, OWN, Line, full_bucket, in_bucket

FRIEND = in_bucket(50)


class Know(unittest.TestCase):
    def test_someone_is_known(self):
        line = Line()
        self.assertEqual(line.know(FRIEND, 77), 0)
        self.assertEqual(line.known(50), [(FRIEND, 77)])
        self.assertEqual(line.everyone_known(), [(FRIEND, 77)])

    def test_the_lowest_and_the_highest_address(self):
        line = Line()
        self.assertEqual(line.know(FRIEND, 0), 0)
        self.assertEqual(line.know(FRIEND + 1, HIGHEST_ADDRESS), 0)
        self.assertEqual(line.known(50), [(FRIEND, 0), (FRIEND + 1, HIGHEST_ADDRESS)])

    def test_an_address_that_is_too_high(self):
        line = Line()
        before = line.held()
        for address in (2**48, 2**48 + 1, 2**64 - 1):
            self.assertEqual(line.know(FRIEND, address), -1)
        self.assertEqual(line.held(), before)

    def test_the_own_name(self):
        line = Line()
        before = line.held()
        self.assertEqual(line.know(OWN, 5), -1)
        self.assertEqual(line.know(OWN, 2**48), -1)
        self.assertEqual(line.held(), before)

    def test_nothing_is_sent_and_nothing_asked(self):
        line = Line()
        line.know(FRIEND)
        self.assertEqual(line.outgoing(), [])
        self.assertEqual(line.open_letters(), [])


class InWhichBucket(unittest.TestCase):
    def test_the_highest_bit_that_differs_tells(self):
        for bit in range(160):
            line = Line()
            line.know(in_bucket(bit), 1)
            self.assertEqual(line.known(bit), [(in_bucket(bit), 1)])
            self.assertEqual(len(line.everyone_known()), 1)

    def test_lower_bits_do_not(self):
        line = Line()
        for bit in (1, 2, 80, 159):
            line.know(in_bucket(bit, (1 << bit) - 1), 1)
            self.assertEqual(line.known_names(bit), [in_bucket(bit, (1 << bit) - 1)])

    def test_the_lowest_bucket_has_one_name(self):
        line = Line()
        self.assertEqual(line.know(OWN ^ 1, 4), 0)
        self.assertEqual(line.known(0), [(OWN ^ 1, 4)])

    def test_the_highest_bucket(self):
        line = Line()
        self.assertEqual(line.know(OWN ^ (NAMES - 1), 4), 0)
        self.assertEqual(line.known(159), [(OWN ^ (NAMES - 1), 4)])

    def test_of_the_own_name_0(self):
        line = Line(0)
        line.know(1)
        line.know(NAMES - 1)
        self.assertEqual(line.known_names(0), [1])
        self.assertEqual(line.known_names(159), [NAMES - 1])


class HeardAgain(unittest.TestCase):
    def test_with_the_same_address_they_are_the_last(self):
        line, names = full_bucket()
        self.assertEqual(line.know(names[2], 1002), 0)
        self.assertEqual(line.known_names(100), names[:2] + names[3:] + [names[2]])
        self.assertEqual(line.waiting(100), [])

    def test_the_last_stays_the_last(self):
        line, names = full_bucket()
        line.know(names[7], 1007)
        self.assertEqual(line.known_names(100), names)

    def test_with_another_address_nothing_changes(self):
        line, names = full_bucket(waiting=2)
        before = line.held()
        self.assertEqual(line.know(names[2], 5), 0)
        self.assertEqual(line.held(), before)

    def test_with_the_same_address_they_are_not_silent(self):
        line, names = full_bucket()
        line.ping(names[2])
        line.time(1000)
        self.assertEqual(line.silent_once(100), [names[2]])
        line.know(names[2], 1002)
        self.assertEqual(line.silent_once(100), [])

    def test_with_another_address_they_stay_silent(self):
        line, names = full_bucket()
        line.ping(names[2])
        line.time(1000)
        line.know(names[2], 5)
        self.assertEqual(line.silent_once(100), [names[2]])
        self.assertEqual(line.known_names(100), names)


class FullBucket(unittest.TestCase):
    def test_eight_are_known_in_the_order_in_which_they_were_heard(self):
        line, names = full_bucket()
        self.assertEqual(line.known(100), [(name, 1000 + k) for k, name in enumerate(names)])
        self.assertEqual(line.waiting(100), [])

    def test_a_ninth_waits(self):
        line, names = full_bucket(waiting=1)
        self.assertEqual(line.known_names(100), names[:8])
        self.assertEqual(line.waiting(100), [(names[8], 1008)])

    def test_eight_wait_in_the_order_in_which_they_were_heard(self):
        line, names = full_bucket(waiting=8)
        self.assertEqual(line.known_names(100), names[:8])
        self.assertEqual(line.waiting_names(100), names[8:])

    def test_of_nine_that_wait_the_first_goes(self):
        line, names = full_bucket(waiting=9)
        self.assertEqual(line.known_names(100), names[:8])
        self.assertEqual(line.waiting_names(100), names[9:])

    def test_who_waits_already_waits_once_and_last(self):
        line, names = full_bucket(waiting=8)
        self.assertEqual(line.know(names[10], 1010), 0)
        self.assertEqual(line.waiting_names(100), names[8:10] + names[11:] + [names[10]])

    def test_who_waits_with_another_address_waits_once_with_the_newer(self):
        line, names = full_bucket(waiting=3)
        line.know(names[8], 5)
        self.assertEqual(line.waiting(100), [(names[9], 1009), (names[10], 1010), (names[8], 5)])

    def test_who_waits_is_not_known(self):
        line, names = full_bucket(waiting=1)
        self.assertEqual(line.ping(names[7]), 0)
        self.assertEqual(line.ping(names[8]), -1)

    def test_other_buckets_are_as_they_were(self):
        line, names = full_bucket(waiting=8)
        line.know(in_bucket(99), 1)
        line.know(in_bucket(101), 2)
        self.assertEqual(line.known_names(99), [in_bucket(99)])
        self.assertEqual(line.known_names(101), [in_bucket(101)])
        self.assertEqual(len(line.everyone_known()), 10)

    def test_a_bucket_of_few_names_is_never_full(self):
        line = Line()
        for low in range(4):
            line.know(in_bucket(2, low))
        self.assertEqual(line.known_names(2), [in_bucket(2, low) for low in range(4)])

    def test_the_highest_bucket_is_full_like_any_other(self):
        line, names = full_bucket(bit=159, waiting=9)
        self.assertEqual(line.known_names(159), names[:8])
        self.assertEqual(line.waiting_names(159), names[9:])


if __name__ == "__main__":
    unittest.main()
