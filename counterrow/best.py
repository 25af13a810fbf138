"""The best row that stays, for one who knows all that is asked for."""

from counterrow.rows import all_rows, steps_if_it_stays


def best_that_stays(things, asked):
    rows = all_rows(things)
    steps = [steps_if_it_stays(row, asked) for row in rows]
    fewest = min(steps)
    first = rows[steps.index(fewest)]
    return [fewest, steps.count(fewest)] + list(first)
