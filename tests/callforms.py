"""How the tests write calls and read answers."""

import itertools

from counterrow.shelves import answers

HIGHEST = 4294967295


def begins(things):
    return [0, things]


def laid(*row):
    return [1, len(row), *row]


def asks(thing):
    return [2, thing]


def fixed(*row):
    return [3, len(row), *row]


def best():
    return [4]


def rule(which):
    return [5, which]


def least():
    return [6]


def all_asked(things):
    """The calls that ask for the things, one after another."""
    return [asks(thing) for thing in things]


def shelf_with(row, asked):
    """The calls that begin with as many things as the row has, lay them so and ask for what is asked."""
    return [begins(len(row)), laid(*row), *all_asked(asked)]


def rows_up_to_six(things):
    """Every row of at most 6 numbers out of the things and, of fewer than 4 things, the first number that is none."""
    numbers = range(min(things + 1, 4))
    return [row for length in range(7) for row in itertools.product(numbers, repeat=length)]


def lists_of(things, longest):
    """Every list of at most so many of the things, in which each may come again."""
    return [asked for length in range(longest + 1) for asked in itertools.product(range(things), repeat=length)]


def rows_of(things):
    """Every row of the things, the lower numbers first at each place."""
    return list(itertools.permutations(range(things)))


def lists_of_ten(things, how_many):
    """So many lists of ten of the things, far from one another, and the same ones every time."""
    return [[number * 6700417 // things ** at % things for at in range(10)] for number in range(how_many)]


def in_one_list(calls):
    return [number for call in calls for number in call]


def answered(*calls):
    """What each call answers, as one list of numbers a call."""
    given = answers(in_one_list(calls))
    parts = []
    at = 0
    while at < len(given):
        # Without this a count below 0 would keep the loop from ending.
        assert given[at] >= 1, given
        parts.append(given[at + 1:at + 1 + given[at]])
        at += 1 + given[at]
    assert at == len(given), given
    return parts


def last_answer(*calls):
    return answered(*calls)[-1]


def first_numbers(*calls):
    """What each call answers, where each answers one number."""
    parts = answered(*calls)
    assert len(parts) == len(calls), parts
    assert all(len(part) == 1 for part in parts), parts
    return [part[0] for part in parts]
