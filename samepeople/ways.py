"""Ways from record to record, each told the same as the one before."""


# How many steps away each record is that hangs together with the one at the end.
def steps_to(same, end):
    steps = {end: 0}
    reached = [end]
    place = 0
    while place < len(reached):
        record = reached[place]
        for other in same[record]:
            if other not in steps:
                steps[other] = steps[record] + 1
                reached.append(other)
        place += 1
    return steps


# The least record at each place, from the beginning on: so no other shortest way has a lesser one where they differ.
def shortest_way(same, begin, steps):
    way = [begin]
    while steps[way[-1]] > 0:
        record = way[-1]
        way.append(min([other for other in same[record] if steps[other] < steps[record]]))
    return way
