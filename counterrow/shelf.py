"""One shelf: the row its things were laid in, and what was asked for since."""

from counterrow.best import best_that_stays
from counterrow.least import least_at_all
from counterrow.rows import has_each_once, steps_if_it_stays
from counterrow.rules import BY_TIMES, steps_by_rule

MOST_THINGS = 4
MOST_TIMES = 10


# Of several refusals the one told first counts, so the order of the checks in a method is the document's.
class Shelf:
    def __init__(self):
        # The row has each thing once at all times, so it also tells which things there are.
        self.row = [0]
        self.asked = []

    def begins(self, things):
        if things < 1 or things > MOST_THINGS:
            return [-1]
        self.row = list(range(things))
        self.asked = []
        return [0]

    def laid(self, row):
        if not has_each_once(row, len(self.row)):
            return [-1]
        if len(self.asked) > 0:
            return [-4]
        self.row = list(row)
        return [0]

    def asks(self, thing):
        if thing not in self.row:
            return [-2]
        if len(self.asked) >= MOST_TIMES:
            return [-5]
        self.asked.append(thing)
        return [len(self.asked)]

    def fixed(self, row):
        if not has_each_once(row, len(self.row)):
            return [-1]
        return [steps_if_it_stays(row, self.asked)]

    def best(self):
        return best_that_stays(len(self.row), self.asked)

    def rule(self, which):
        # The rules are numbered from 0, and this is the last of them.
        if which > BY_TIMES:
            return [-1]
        return steps_by_rule(which, self.row, self.asked)

    def least(self):
        return [least_at_all(self.row, self.asked)]
