"""The object that the calls are made on: the rules, and the records as they came."""

from samepeople.links import Links
from samepeople.pairs import pair_levels, pair_sum, pair_told
from samepeople.persons import Persons

NOT_THERE = -2
NOT_ONE_PERSON = -11
NOT_RIGHT = -22
NO_ROOM = -28
MOST_RECORDS = 256

NUMBER_FORM = 0
PAIR_FORM = 1
ROW_FORM = 2


# Each call answers a row of numbers, the form first: a number by itself doesn't tell which form it is.
class People:
    def __init__(self):
        self.rules = None
        self.forget_records()

    def forget_records(self):
        self.records = []
        self.links = Links()
        self.persons = None

    def take_rules(self, rules):
        if not rules.are_right():
            return [NUMBER_FORM, NOT_RIGHT]
        self.rules = rules
        self.forget_records()
        return [NUMBER_FORM, 0]

    def take_record(self, record):
        if not record.is_right():
            return [NUMBER_FORM, NOT_RIGHT]
        if len(self.records) == MOST_RECORDS:
            return [NUMBER_FORM, NO_ROOM]
        self.links.take_told([self.compare(old, record)[0] for old in self.records])
        self.persons = None
        self.records.append(record)
        return [NUMBER_FORM, len(self.records) - 1]

    def compare(self, a, b):
        levels = pair_levels(a, b)
        total = pair_sum(self.rules, levels)
        return [pair_told(self.rules, levels, total), total] + levels

    def has_record(self, i):
        return i < len(self.records)

    # Persons are found when they're asked for: many records may come before that.
    def find_persons(self):
        if self.persons is None:
            self.persons = Persons(self.links)
        return self.persons

    def tell_pair(self, i, j):
        if i == j or not self.has_record(i) or not self.has_record(j):
            return [NUMBER_FORM, NOT_THERE]
        return [PAIR_FORM] + self.compare(self.records[i], self.records[j])

    def tell_group(self, i):
        if not self.has_record(i):
            return [NUMBER_FORM, NOT_THERE]
        return row_answer(self.find_persons().group_of(i))

    def tell_why(self, i, j):
        if not self.has_record(i) or not self.has_record(j):
            return [NUMBER_FORM, NOT_THERE]
        persons = self.find_persons()
        if not persons.are_one(i, j):
            return [NUMBER_FORM, NOT_ONE_PERSON]
        return row_answer(persons.way_between(i, j))

    def tell_count(self):
        return row_answer(self.find_persons().counts())


def row_answer(numbers):
    return [ROW_FORM, len(numbers)] + numbers
