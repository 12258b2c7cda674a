"""All promises at once: long lists of calls, made by a rule, whose answers are reckoned apart from the program."""

import unittest

from nearmany.desk import answers
from tests.maker import MOODS, MOST_CALLS, MOST_NUMBERS, Maker, written
from tests.reckoner import CALLS

LISTS = 12 * len(MOODS)


def in_one_list(rows):
    return [number for row in rows for number in row]


def split(given):
    """The answers, call by call."""
    rows = []
    while given:
        rows.append(given[1:1 + given[0]])
        given = given[1 + given[0]:]
    return rows


class Watcher(Maker):
    """A maker that keeps the most that was held of each thing."""

    def __init__(self, number):
        super().__init__(number)
        self.peaks = {}

    def look(self):
        due = self.due
        held = {
            "waiting to be sent": len(due.to_send),
            "open": len(due.asked),
            "kept": len(due.kept),
            "found": len(due.going["found"]) if due.going else 0,
            "known in a bucket": max(len(each) for each in due.known.values()),
            "waiting in a bucket": max(len(each) for each in due.wait.values()),
            "in a result": len(due.ended[0]) if due.ended else 0,
            "value as a result": len(due.ended[1]) if due.ended and due.ended[1] is not None else -1,
        }
        self.peaks = {key: max(held[key], self.peaks.get(key, -1)) for key in held}


class LongLists(unittest.TestCase):
    @classmethod
    def setUpClass(cls):
        cls.makers = [Watcher(number) for number in range(LISTS)]
        cls.made = [maker.make() for maker in cls.makers]

    def test_each_answer_is_the_one_that_is_due(self):
        for number, (calls, dues) in enumerate(self.made):
            given = split(answers(in_one_list([written(call) for call in calls])))
            self.assertEqual(len(given), len(calls))
            for place, (call, answer, due) in enumerate(zip(calls, given, dues)):
                self.assertEqual(answer, due, f"list {number}, call {place}: {call}")

    def test_the_lists_are_as_long_as_they_may_be(self):
        for calls, dues in self.made:
            length = len(in_one_list([written(call) for call in calls]))
            self.assertLessEqual(length, MOST_NUMBERS)
            self.assertTrue(len(calls) == MOST_CALLS or length > MOST_NUMBERS - 700, (len(calls), length))

    def test_each_call_and_each_of_its_refusals_is_among_them(self):
        seen = {(call[0], min(due[0], 0)) for calls, dues in self.made for call, due in zip(calls, dues)}
        refusals = {"know": (-1,), "come": (-1,), "time": (-1,), "ping": (-1, -2), "search": (-2, -3),
                    "result": (-3, -1), "value": (-3, -2), "store": (-1, -2), "send": (-3, -2), "near": (-1,)}
        for call in CALLS:
            for number in (0, *refusals.get(call, ())):
                self.assertIn((call, number), seen)

    def test_they_reach_what_the_document_bounds(self):
        peaks = {}
        for maker in self.makers:
            for key, most in maker.peaks.items():
                peaks[key] = max(most, peaks.get(key, -1))
        self.assertEqual(peaks["waiting to be sent"], 256)
        self.assertEqual(peaks["kept"], 128)
        self.assertEqual(peaks["found"], 64)
        self.assertGreater(peaks["open"], 64)
        self.assertEqual(peaks["known in a bucket"], 8)
        self.assertEqual(peaks["waiting in a bucket"], 8)
        self.assertEqual(peaks["in a result"], 8)
        self.assertGreaterEqual(peaks["value as a result"], 255)


if __name__ == "__main__":
    unittest.main()
