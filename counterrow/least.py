"""The least number of steps that what was asked for takes, whatever can be done."""

from counterrow.rows import all_rows, moved_ahead


# An exchange of neighbours turns one pair round, so there is one for each pair that lies the other way round.
def exchanges(one, other):
    pairs = 0
    for place in range(len(one)):
        for ahead in range(place):
            if other.index(one[place]) < other.index(one[ahead]):
                pairs += 1
    return pairs


def exchanges_between(rows):
    between = {}
    for one in rows:
        for other in rows:
            between[(one, other)] = exchanges(one, other)
    return between


def least_once_exchanged(least, rows, between):
    exchanged = {}
    for row in rows:
        exchanged[row] = min([least[start] + between[(start, row)] for start in least])
    return exchanged


def least_once_put_back(least, thing):
    put_back = {}
    for row in least:
        place = row.index(thing)
        steps = least[row] + place + 1
        for to in range(place + 1):
            after = moved_ahead(row, place, to)
            put_back[after] = min(put_back.get(after, steps), steps)
    return put_back


# For each row the things can lie in, the least that leads there: how it was come by makes no difference later.
def least_at_all(row, asked):
    rows = all_rows(len(row))
    between = exchanges_between(rows)
    least = {tuple(row): 0}
    for thing in asked:
        least = least_once_put_back(least_once_exchanged(least, rows, between), thing)
    return min(least.values())
