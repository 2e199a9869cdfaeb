"""The interface: a list of numbers that tells calls on a new object, answered call by call."""

from callstrings.calls import Subject, answer_arrows, answer_at, answer_bodies, answer_check, answer_dead
from callstrings.calls import answer_facts, answer_ladder, answer_name, answer_parts, answer_program
from callstrings.calls import answer_size, answer_strings, answer_values


class Cursor:
    def __init__(self, numbers):
        self.numbers = numbers
        self.place = 0

    def at_end(self):
        return self.place >= len(self.numbers)

    def take(self):
        number = self.numbers[self.place]
        self.place += 1
        return number

    def take_row(self):
        size = self.take()
        row = self.numbers[self.place:self.place + size]
        self.place += size
        return row


def answer_next(subject, cursor):
    call = cursor.take()
    if call == 0:
        return answer_program(subject, cursor.take_row())
    if call == 1:
        return answer_strings(subject, cursor.take())
    if call == 2:
        return answer_facts(subject)
    if call == 3:
        return answer_values(subject, cursor.take())
    if call == 4:
        label = cursor.take()
        return answer_at(subject, label, cursor.take_row())
    if call == 5:
        return answer_arrows(subject)
    if call == 6:
        return answer_bodies(subject, cursor.take())
    if call == 7:
        return answer_ladder(subject)
    if call == 8:
        return answer_parts(subject, cursor.take())
    if call == 9:
        return answer_dead(subject)
    if call == 10:
        return answer_check(subject, cursor.take())
    if call == 11:
        return answer_name(subject, cursor.take())
    return answer_size(subject)


def answers(calls):
    subject = Subject()
    cursor = Cursor(calls)
    told = []
    while not cursor.at_end():
        answer = answer_next(subject, cursor)
        told.append(len(answer))
        told.extend(answer)
    return told
