"""Promise 4: letters of kinds 1, 3, 5 and 7, and which open ones they answer."""

import unittest

from nearmany.someone import Someone
from tests.helper import OWN, Line, in_bucket, letter_bytes, name_bytes, people_bytes, value_bytes

FRIEND = in_bucket(40)
OTHER = in_bucket(40, 1)
STRANGER = in_bucket(41)
ANSWERS = {1: b"", 3: people_bytes([(STRANGER, 8)]), 5: value_bytes(b"value"), 7: b""}
RIGHT = {0: (1,), 2: (3, 5), 4: (3, 5), 6: (7,)}
RESTS = {0: b"", 2: name_bytes(STRANGER), 4: name_bytes(STRANGER), 6: name_bytes(STRANGER) + value_bytes(b"v")}


def asking_line(kind=0):
    """One that knows two, the first silent once, has asked the first, and the mark of that."""
    line = Line()
    line.know(FRIEND, 5)
    line.know(OTHER, 6)
    line.ping(FRIEND)
    line.time(1000)
    line.one.post.ask(Someone(FRIEND, 5), kind, list(RESTS[kind]), line.one.now, False)
    line.sent()
    return line, line.open_letters()[0][1]


class Answering(unittest.TestCase):
    def answers_nothing(self, line, address, letter):
        before = line.held()
        self.assertEqual(line.come(address, letter), 1)
        self.assertEqual(line.held(), before)

    def test_each_kind_to_each_kind(self):
        for asked in RIGHT:
            for kind, rest in ANSWERS.items():
                line, mark = asking_line(asked)
                letter = letter_bytes(kind, mark, FRIEND, rest)
                if kind not in RIGHT[asked]:
                    self.answers_nothing(line, 5, letter)
                    continue
                self.assertEqual(line.come(5, letter), 1)
                self.assertEqual(line.open_letters(), [])
                self.assertEqual(line.known_names(40), [OTHER, FRIEND])
                self.assertEqual(line.silent_once(40), [])

    def test_an_answer_is_not_answered(self):
        for asked in RIGHT:
            for kind in RIGHT[asked]:
                line, mark = asking_line(asked)
                line.come(5, letter_bytes(kind, mark, FRIEND, ANSWERS[kind]))
                self.assertEqual(line.outgoing(), [])

    def test_people_in_an_answer_are_not_heard(self):
        line, mark = asking_line(2)
        line.come(5, letter_bytes(3, mark, FRIEND, ANSWERS[3]))
        self.assertEqual(line.known(41), [])

    def test_a_value_in_an_answer_is_not_kept(self):
        line, mark = asking_line(4)
        line.come(5, letter_bytes(5, mark, FRIEND, ANSWERS[5]))
        self.assertEqual(line.kept(), {})

    def test_a_wrong_mark(self):
        line, mark = asking_line()
        for wrong in (mark ^ 1, mark ^ 1 << 63, 0, 2**64 - 1):
            self.answers_nothing(line, 5, letter_bytes(1, wrong, FRIEND))

    def test_a_wrong_address(self):
        line, mark = asking_line()
        for wrong in (4, 6, 0, 2**48 - 1):
            self.answers_nothing(line, wrong, letter_bytes(1, mark, FRIEND))

    def test_a_wrong_name(self):
        line, mark = asking_line()
        for wrong in (OTHER, STRANGER):
            self.answers_nothing(line, 5, letter_bytes(1, mark, wrong))

    def test_the_own_name(self):
        line, mark = asking_line()
        before = line.held()
        self.assertEqual(line.come(5, letter_bytes(1, mark, OWN)), 0)
        self.assertEqual(line.held(), before)

    def test_a_letter_that_is_not_read(self):
        line, mark = asking_line()
        before = line.held()
        self.assertEqual(line.come(5, letter_bytes(1, mark, FRIEND) + b"\x00"), 0)
        self.assertEqual(line.held(), before)

    def test_a_question_with_the_mark_answers_nothing(self):
        line, mark = asking_line()
        self.assertEqual(line.come(5, letter_bytes(0, mark, FRIEND)), 1)
        self.assertEqual(len(line.open_letters()), 1)

    def test_an_answer_that_comes_twice(self):
        line, mark = asking_line()
        self.assertEqual(line.come(5, letter_bytes(1, mark, FRIEND)), 1)
        line.know(OTHER, 6)
        self.answers_nothing(line, 5, letter_bytes(1, mark, FRIEND))

    def test_an_answer_where_nothing_was_asked(self):
        line = Line()
        for kind, rest in ANSWERS.items():
            self.answers_nothing(line, 5, letter_bytes(kind, 0, FRIEND, rest))

    def test_an_answer_that_comes_too_late(self):
        line, mark = asking_line()
        line.know(FRIEND, 5)
        line.time(1000)
        self.answers_nothing(line, 5, letter_bytes(1, mark, FRIEND))

    def test_an_answer_at_the_last_moment(self):
        line, mark = asking_line()
        line.time(999)
        line.come(5, letter_bytes(1, mark, FRIEND))
        self.assertEqual(line.silent_once(40), [])
        line.time(1)
        self.assertEqual(line.silent_once(40), [])

    def test_only_the_one_with_the_mark_is_open_no_longer(self):
        line = Line()
        line.know(FRIEND, 5)
        marks = [line.pinged(FRIEND) for k in range(3)]
        line.come(5, letter_bytes(1, marks[1], FRIEND))
        self.assertEqual([each[1] for each in line.open_letters()], [marks[0], marks[2]])

    def test_who_answers_and_is_known_no_longer_is_known_again(self):
        line = Line()
        line.know(FRIEND, 5)
        line.ping(FRIEND)
        line.ping(FRIEND)
        line.time(500)
        mark = line.pinged(FRIEND)
        line.time(500)
        self.assertEqual(line.known(40), [])
        self.assertEqual(line.come(5, letter_bytes(1, mark, FRIEND)), 1)
        self.assertEqual(line.known(40), [(FRIEND, 5)])
        self.assertEqual(line.silent_once(40), [])


if __name__ == "__main__":
    unittest.main()
