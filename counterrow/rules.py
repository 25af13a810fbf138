"""The rules by which a thing is put back without knowing what will be asked for."""

from counterrow.rows import moved_ahead

TO_THE_FRONT = 0
ONE_AHEAD = 1
BY_TIMES = 2


def place_by_times(row, place, till_then):
    times = till_then.count(row[place])
    for ahead in range(place):
        if till_then.count(row[ahead]) < times:
            return ahead
    return place


def place_by_rule(which, row, place, till_then):
    if which == TO_THE_FRONT:
        return 0
    if which == ONE_AHEAD:
        return max(place - 1, 0)
    return place_by_times(row, place, till_then)


def steps_by_rule(which, row, asked):
    steps = 0
    for before, thing in enumerate(asked):
        place = row.index(thing)
        steps += place + 1
        # Rule 2 counts this time too, but none that comes later.
        till_then = asked[:before + 1]
        row = moved_ahead(row, place, place_by_rule(which, row, place, till_then))
    return [steps] + row
