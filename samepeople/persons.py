"""Persons: what hangs together, or each record by itself where that is torn."""

from samepeople.ways import shortest_way, steps_to


# A part is called by its least record: the first one that isn't in a part that came before.
def parts_of(same):
    parts = {}
    for record in range(len(same)):
        if record not in parts:
            for other in steps_to(same, record):
                parts[other] = record
    return parts


def torn_parts(parts, differing):
    torn = {}
    for a, b in differing:
        if parts[a] == parts[b]:
            torn[parts[a]] = True
    return torn


# A person is called by its least record, as a part is.
def sizes_of(person_of):
    sizes = {}
    for person in person_of:
        sizes[person] = sizes.get(person, 0) + 1
    return sizes


# What the links tell as long as no record comes: it's found once, however often it's asked for.
class Persons:
    def __init__(self, links):
        self.same = links.same
        self.parts = parts_of(links.same)
        self.torn = torn_parts(self.parts, links.differing)
        self.person_of = [self.find_person(record) for record in range(len(links.same))]
        self.sizes = sizes_of(self.person_of)
        self.undecided = len([1 for a, b in links.perhaps if not self.are_one(a, b)])
        self.steps = {}

    def is_torn(self, record):
        return self.parts[record] in self.torn

    def find_person(self, record):
        return record if self.is_torn(record) else self.parts[record]

    def are_one(self, a, b):
        return self.person_of[a] == self.person_of[b]

    def group_of(self, record):
        person = self.person_of[record]
        return [person, self.sizes[person], 1 if self.is_torn(record) else 0]

    def way_between(self, begin, end):
        if end not in self.steps:
            self.steps[end] = steps_to(self.same, end)
        return shortest_way(self.same, begin, self.steps[end])

    def counts(self):
        return [len(self.sizes), len(self.torn), self.undecided]
