"""The interface: a list of numbers that tells calls on a new object, answered call by call."""

from callstrings.calls import Subject, answer_arrows, answer_at, answer_bodies, answer_facts
from callstrings.calls import answer_program, answer_size, answer_strings, answer_values


class Cursor:
    def __init__(self, numbers):
        self.numbers = numbers
        self.place = 0

    def at_end(self):
        return self.place >= len(self.numbers)

    def take(self):
        number = self.numbers[self.place]
        self.place += 1
        return number

    def take_row(self):
        size = self.take()
        row = self.numbers[self.place:self.place + size]
        self.place += size
        return row


def answer_next(subject, cursor):
    call = cursor.take()
    if call == 0:
        return answer_program(subject, cursor.take_row())
    if call == 1:
        return answer_strings(subject, cursor.take())
    if call == 2:
        return answer_facts(subject)
    if call == 3:
        return answer_values(subject, cursor.take())
    if call == 4:
        label = cursor.take()
        return answer_at(subject, label, cursor.take_row())
    if call == 5:
        return answer_arrows(subject)
    if call == 6:
        return answer_bodies(subject, cursor.take())
    if call == 12:
        return answer_size(subject)
    raise NotImplementedError("call")


def answers(calls):
    subject = Subject()
    cursor = Cursor(calls)
    told = []
    while not cursor.at_end():
        answer = answer_next(subject, cursor)
        told.append(len(answer))
        told.extend(answer)
    return told
