"""The object that the calls are made on: the rules, and the records as they came."""

from samepeople.pairs import pair_levels, pair_sum, pair_told

NOT_THERE = -2
NOT_RIGHT = -22
NO_ROOM = -28
MOST_RECORDS = 256

NUMBER_FORM = 0
PAIR_FORM = 1


# Each call answers a row of numbers, the form first: a number by itself doesn't tell which form it is.
class People:
    def __init__(self):
        self.rules = None
        self.records = []

    def take_rules(self, rules):
        if not rules.are_right():
            return [NUMBER_FORM, NOT_RIGHT]
        self.rules = rules
        self.records = []
        return [NUMBER_FORM, 0]

    def take_record(self, record):
        if not record.is_right():
            return [NUMBER_FORM, NOT_RIGHT]
        if len(self.records) == MOST_RECORDS:
            return [NUMBER_FORM, NO_ROOM]
        self.records.append(record)
        return [NUMBER_FORM, len(self.records) - 1]

    def has_record(self, i):
        return i < len(self.records)

    def tell_pair(self, i, j):
        if i == j or not self.has_record(i) or not self.has_record(j):
            return [NUMBER_FORM, NOT_THERE]
        levels = pair_levels(self.records[i], self.records[j])
        total = pair_sum(self.rules, levels)
        return [PAIR_FORM, pair_told(self.rules, levels, total), total] + levels
