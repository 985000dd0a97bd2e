"""What is told of each two records, kept as it is needed to find persons and ways."""

from samepeople.pairs import PERHAPS_SAME, SAME, SURELY_DIFFER


# same has for each record those that are the same as it; perhaps and differing have each pair once.
class Links:
    def __init__(self):
        self.same = []
        self.perhaps = []
        self.differing = []

    # told_before is what is told of the new record with each one that came before it.
    def take_told(self, told_before):
        new = len(told_before)
        self.same.append([])
        for old, told in enumerate(told_before):
            if told == SAME:
                self.same[old].append(new)
                self.same[new].append(old)
            elif told == PERHAPS_SAME:
                self.perhaps.append((old, new))
            elif told == SURELY_DIFFER:
                self.differing.append((old, new))
