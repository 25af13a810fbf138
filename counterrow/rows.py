"""What is asked of a row of things, wherever the row comes from."""


def has_each_once(row, things):
    return sorted(row) == list(range(things))


def steps_if_it_stays(row, asked):
    steps = 0
    for thing in asked:
        steps += row.index(thing) + 1
    return steps


def moved_ahead(row, place, to):
    return row[:to] + row[place:place + 1] + row[to:place] + row[place + 1:]


def with_one_more(rows, things):
    longer = []
    for row in rows:
        for thing in range(things):
            if thing not in row:
                longer.append(row + (thing,))
    return longer


# The lower numbers come first at each place, so of several rows the one that is told first is met first.
def all_rows(things):
    rows = [()]
    for length in range(things):
        rows = with_one_more(rows, things)
    return rows
