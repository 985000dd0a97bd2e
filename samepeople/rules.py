"""Rules: the weights of the levels, and the bounds that a sum is held against."""

LEAST_WEIGHT = -1000
MOST_WEIGHT = 1000


# weights has five rows, in the order first, last, birth, place, number: that of the levels.
class Rules:
    def __init__(self, same, perhaps, never, weights):
        self.same = same
        self.perhaps = perhaps
        self.never = never
        self.weights = weights

    def are_right(self):
        for row in self.weights:
            if min(row) < LEAST_WEIGHT or max(row) > MOST_WEIGHT:
                return False
        return self.never < self.perhaps and self.perhaps <= self.same
