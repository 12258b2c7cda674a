"""The desk: calls on one object, read from one list of whole numbers, and their answers."""

from nearmany.octets import number_of
from nearmany.one import One


class Calls:
    def __init__(self, numbers):
        self.numbers = numbers
        self.place = 0

    def is_at_end(self):
        return self.place >= len(self.numbers)

    def take_number(self):
        number = self.numbers[self.place]
        self.place = self.place + 1
        return number

    def take_row(self):
        how_many = self.take_number()
        start = self.place
        self.place = start + how_many
        return self.numbers[start:self.place]

    def take_name(self):
        return number_of(self.take_row())


def call_begin(one, calls):
    return [one.begin()]


def call_own(one, calls):
    seed = calls.take_number()
    return [one.own(calls.take_name(), seed)]


def call_know(one, calls):
    address = calls.take_number()
    return [one.know(calls.take_name(), address)]


def call_come(one, calls):
    address = calls.take_number()
    return [one.come(address, calls.take_row())]


def call_time(one, calls):
    return [one.time(calls.take_number())]


def call_ping(one, calls):
    return [one.ping(calls.take_name())]


def call_search(one, calls):
    value = calls.take_number()
    return [one.search(calls.take_name(), value)]


def call_result(one, calls):
    return one.result(calls.take_number())


def call_value(one, calls):
    return one.value(calls.take_number())


def call_store(one, calls):
    name = calls.take_name()
    key = calls.take_name()
    return [one.store(name, key, calls.take_row())]


def call_send(one, calls):
    return one.send(calls.take_number())


def call_near(one, calls):
    k = calls.take_number()
    return one.near(calls.take_name(), k)


CALLS = {
    0: call_begin,
    1: call_own,
    2: call_know,
    3: call_come,
    4: call_time,
    5: call_ping,
    6: call_search,
    7: call_result,
    8: call_value,
    9: call_store,
    10: call_send,
    11: call_near,
}


def answers(calls):
    return answers_of(One(), calls)


# Apart from answers, so that what the object holds then can be looked at.
def answers_of(one, calls):
    given = []
    left = Calls(calls)
    while not left.is_at_end():
        make_call = CALLS[left.take_number()]
        answer = make_call(one, left)
        given.append(len(answer))
        given.extend(answer)
    return given
