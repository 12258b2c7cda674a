"""Promise 12: near."""

import unittest

from tests.helper import OWN, Line, full_bucket, in_bucket, letter_bytes, someone_bytes

FRIEND = in_bucket(40)


def crowded_line(how_many):
    """Many are known, in as many buckets; and they."""
    line = Line()
    people = [(in_bucket(60 + 5 * k, k * k * k), 900 - k) for k in range(how_many)]
    for name, address in people:
        assert line.know(name, address) == 0
    return line, people


def by_nearness(people, name):
    return sorted(people, key=lambda someone: someone[0] ^ name)


class Near(unittest.TestCase):
    def nobody_is(self, line):
        for name in (FRIEND, OWN, 0):
            for k in (-2147483648, -2, -1, 0, 1, 2147483647):
                self.assertEqual(line.near(name, k), [-1])

    def test_nobody_known(self):
        self.nobody_is(Line())

    def test_each_k(self):
        line, people = crowded_line(5)
        before = line.held()
        near = by_nearness(people, FRIEND)
        for k in range(5):
            self.assertEqual(line.near(FRIEND, k), [5, *someone_bytes(*near[k])])
        for k in (-1, -2, -5, -2147483648, 5, 6, 8, 2147483647):
            self.assertEqual(line.near(FRIEND, k), [-1])
        self.assertEqual(line.held(), before)

    def test_fewer_than_eight_are_all(self):
        for how_many in range(1, 9):
            line, people = crowded_line(how_many)
            self.assertEqual(line.nearest(OWN), by_nearness(people, OWN))

    def test_of_more_the_eight_nearest(self):
        line, people = crowded_line(20)
        for name in (OWN, FRIEND, 0, in_bucket(155), in_bucket(61, 1), in_bucket(100, 12345), (1 << 160) - 1):
            self.assertEqual(line.nearest(name), by_nearness(people, name)[:8])
            self.assertEqual(line.near(name, 7)[0], 8)
            self.assertEqual(line.near(name, 8), [-1])

    def test_each_name_that_is_known_is_the_nearest_to_itself(self):
        line, people = crowded_line(20)
        for name, address in people:
            self.assertEqual(line.near(name, 0), [8, *someone_bytes(name, address)])

    def test_nine_of_which_the_farthest_is_not_told(self):
        line, people = crowded_line(9)
        for name in (OWN, people[8][0], people[0][0], people[4][0] ^ 1):
            self.assertEqual(line.nearest(name), by_nearness(people, name)[:8])

    def test_the_order_is_by_the_exclusive_or(self):
        line = Line(0)
        for name in (8, 4, 2, 1, 15):
            line.know(name, name)
        self.assertEqual([name for name, address in line.nearest(0)], [1, 2, 4, 8, 15])
        self.assertEqual([name for name, address in line.nearest(15)], [15, 8, 4, 2, 1])
        self.assertEqual([name for name, address in line.nearest(5)], [4, 1, 2, 15, 8])

    def test_one_bucket_and_those_who_wait(self):
        line, names = full_bucket(waiting=3)
        people = [(name, 1000 + k) for k, name in enumerate(names[:8])]
        for name in (names[0], names[7], names[9], OWN):
            self.assertEqual(line.nearest(name), by_nearness(people, name))

    def test_how_it_stands_in_bytes(self):
        line = Line(0)
        line.know(int.from_bytes(range(1, 21), "big"), 0xA1B2C3D4E5F6)
        self.assertEqual(line.ask([11, 0, 20] + [0] * 20), [1, *range(1, 21), 0xA1, 0xB2, 0xC3, 0xD4, 0xE5, 0xF6])

    def test_the_highest_byte_of_the_name_comes_first(self):
        line = Line(0)
        first = 1 << 152
        line.know(first, 5)
        line.know(1, 6)
        self.assertEqual(line.ask([11, 0, 20, 1] + [0] * 19), [2, *someone_bytes(first, 5)])
        self.assertEqual(line.ask([11, 0, 20] + [0] * 19 + [1]), [2, *someone_bytes(1, 6)])

    def test_who_was_silent_once_is_near_still(self):
        line, people = crowded_line(2)
        name = people[0][0]
        line.ping(name)
        line.time(1000)
        self.assertEqual(line.nearest(OWN), by_nearness(people, OWN))
        line.ping(name)
        line.time(1000)
        self.assertEqual(line.nearest(OWN), people[1:])

    def test_those_found_by_a_search_are_not_known_by_it(self):
        line, people = crowded_line(1)
        line.search(FRIEND)
        kind, mark, name, address = line.open_letters()[0]
        line.come(address, letter_bytes(3, mark, name, b"\x01" + someone_bytes(FRIEND, 3)))
        self.assertEqual(line.nearest(FRIEND), people)

    def test_who_writes_is_near_then(self):
        line = Line()
        line.come(9, letter_bytes(0, 0, FRIEND))
        self.assertEqual(line.nearest(OWN), [(FRIEND, 9)])

    def test_nobody_behind_begin_and_own(self):
        line, people = crowded_line(3)
        line.call([0])
        self.nobody_is(line)
        line.know(FRIEND, 5)
        line.call([1, 0, 20] + [0] * 20)
        self.nobody_is(line)


if __name__ == "__main__":
    unittest.main()
