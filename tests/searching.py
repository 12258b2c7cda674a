"""What the tests of searches share."""

import unittest

from tests.helper import Line, in_bucket, letter_bytes, people_bytes

# Names are told by how far they are from the one that's searched: person(1) is the nearest to it.
# All of them are in the bucket of the one that's searched.
BUCKET = 150
TARGET = in_bucket(BUCKET)


def person(distance):
    return TARGET ^ distance


def people(distances):
    return [(person(distance), 100 + distance) for distance in distances]


def knowing(distances):
    """A line that knows them."""
    line = Line()
    for name, address in people(distances):
        assert line.know(name, address) == 0
    return line


class SearchTest(unittest.TestCase):
    def search(self, distances, for_value=False):
        self.line = knowing(distances)
        self.assertEqual(self.line.search(TARGET, int(for_value)), 0)
        return self.line

    def marks(self, distance):
        return [mark for kind, mark, name, address in self.line.open_letters() if name == person(distance)]

    def comes(self, distance, kind, rest, mark=None):
        mark = self.marks(distance)[-1] if mark is None else mark
        self.assertEqual(self.line.come(100 + distance, letter_bytes(kind, mark, person(distance), rest)), 1)

    def these_are(self, distance, distances):
        self.comes(distance, 3, people_bytes(people(distances)))

    def states(self):
        return {name ^ TARGET: state for name, address, state in self.line.found()}

    def in_state(self, state):
        return [distance for distance, each in self.states().items() if each == state]

    def is_over_with(self, distances, value=None):
        self.assertIsNone(self.line.one.quest)
        self.assertEqual(self.line.outcome(), (people(distances), value))

    def is_going_on(self):
        self.assertIsNotNone(self.line.one.quest)
        self.assertEqual(self.line.search(TARGET), -2)
        self.assertIsNone(self.line.outcome())
        self.assertEqual(self.line.value(4096), [-3])
