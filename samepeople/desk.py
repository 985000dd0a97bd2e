"""The calls in numbers: read, carried out one behind another, and answered in numbers."""

from samepeople.people import People
from samepeople.records import Record
from samepeople.rules import Rules

SL_START = 0
SL_ADD = 1
SL_PAIR = 2
SL_GROUP = 3
SL_WHY = 4
SL_COUNT = 5


class UnknownCall(ValueError):
    pass


# Keeps the place in the calls, so that what is handed in stays as it is.
class Reader:
    def __init__(self, calls):
        self.calls = calls
        self.place = 0

    def has_more(self):
        return self.place < len(self.calls)

    def take_number(self):
        number = self.calls[self.place]
        self.place += 1
        return number

    def take_row(self):
        size = self.take_number()
        row = self.calls[self.place:self.place + size]
        self.place += size
        return row


def read_rules(reader):
    same = reader.take_number()
    perhaps = reader.take_number()
    never = reader.take_number()
    first = reader.take_row()
    last = reader.take_row()
    birth = reader.take_row()
    place = reader.take_row()
    number = reader.take_row()
    return Rules(same, perhaps, never, [first, last, birth, place, number])


def read_record(reader):
    number = reader.take_number()
    place = reader.take_number()
    year = reader.take_number()
    month = reader.take_number()
    day = reader.take_number()
    # The roll is of no matter, but its number has to be passed.
    reader.take_number()
    first = reader.take_row()
    last = reader.take_row()
    zero = reader.take_row()
    return Record(number, place, (year, month, day), first, last, zero)


def answer_call(people, reader):
    call = reader.take_number()
    if call == SL_START:
        return people.take_rules(read_rules(reader))
    if call == SL_ADD:
        return people.take_record(read_record(reader))
    if call == SL_PAIR:
        i = reader.take_number()
        j = reader.take_number()
        return people.tell_pair(i, j)
    if call == SL_GROUP:
        return people.tell_group(reader.take_number())
    if call == SL_WHY:
        i = reader.take_number()
        j = reader.take_number()
        return people.tell_why(i, j)
    if call == SL_COUNT:
        return people.tell_count()
    raise UnknownCall("no such call")


def answers(calls):
    people = People()
    reader = Reader(calls)
    told = []
    while reader.has_more():
        answer = answer_call(people, reader)
        told.append(len(answer))
        told.extend(answer)
    return told
