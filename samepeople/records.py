"""A record: one person as written in one list."""

from samepeople.names import name_is_right

NOT_KNOWN = (0, 0, 0)
MOST_YEAR = 9999
MOST_MONTH = 12
MOST_DAY = 31


# The list that a record came from is of no matter: so it is not kept. birth is year, month and day.
class Record:
    def __init__(self, number, place, birth, first, last, zero):
        self.number = number
        self.place = place
        self.birth = birth
        self.first = first
        self.last = last
        self.zero = zero

    def is_right(self):
        names_right = name_is_right(self.first) and name_is_right(self.last)
        return names_right and birth_is_right(self.birth) and not any(self.zero)


def birth_is_right(birth):
    if birth == NOT_KNOWN:
        return True
    year_right = 1 <= birth[0] <= MOST_YEAR
    month_right = 1 <= birth[1] <= MOST_MONTH
    day_right = 1 <= birth[2] <= MOST_DAY
    return year_right and month_right and day_right
