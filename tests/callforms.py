"""How the tests write calls and read answers."""

import itertools

from counterrow.shelves import answers

HIGHEST = 4294967295


def begins(things):
    return [0, things]


def laid(*row):
    return [1, len(row), *row]


def asks(thing):
    return [2, thing]


def fixed(*row):
    return [3, len(row), *row]


def rows_up_to_six(things):
    """Every row of at most 6 numbers out of the things and, of fewer than 4 things, the first number that is none."""
    numbers = range(min(things + 1, 4))
    return [row for length in range(7) for row in itertools.product(numbers, repeat=length)]


def in_one_list(calls):
    return [number for call in calls for number in call]


def answered(*calls):
    """What each call answers, as one list of numbers a call."""
    given = answers(in_one_list(calls))
    parts = []
    at = 0
    while at < len(given):
        # Without this a count below 0 would keep the loop from ending.
        assert given[at] >= 1, given
        parts.append(given[at + 1:at + 1 + given[at]])
        at += 1 + given[at]
    assert at == len(given), given
    return parts


def first_numbers(*calls):
    """What each call answers, where each answers one number."""
    parts = answered(*calls)
    assert len(parts) == len(calls), parts
    assert all(len(part) == 1 for part in parts), parts
    return [part[0] for part in parts]
