"""What is asked of a row of things, wherever the row comes from."""


def has_each_once(row, things):
    return sorted(row) == list(range(things))


def steps_if_it_stays(row, asked):
    steps = 0
    for thing in asked:
        steps += row.index(thing) + 1
    return steps
