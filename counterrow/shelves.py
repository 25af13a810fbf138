"""The calls on one shelf, handed in as one list and answered in another."""

from counterrow.shelf import Shelf

BEGINS = 0
LAID = 1
ASKS = 2
FIXED = 3
BEST = 4
RULE = 5
LEAST = 6


# Raised so that a number that is no call's is never taken for another call.
class UnknownCall(Exception):
    pass


def call_length(calls, start):
    # A row has its count before it, so a refused row of any length is passed over whole.
    if calls[start] in (LAID, FIXED):
        return 2 + calls[start + 1]
    if calls[start] in (BEST, LEAST):
        return 1
    return 2


def answer_to(shelf, call):
    number = call[0]
    if number == BEGINS:
        return shelf.begins(call[1])
    if number == LAID:
        return shelf.laid(call[2:])
    if number == ASKS:
        return shelf.asks(call[1])
    if number == FIXED:
        return shelf.fixed(call[2:])
    if number == BEST:
        return shelf.best()
    if number == RULE:
        return shelf.rule(call[1])
    if number == LEAST:
        return shelf.least()
    raise UnknownCall(f"no call has the number {number}")


def answers(calls):
    shelf = Shelf()
    given = []
    start = 0
    while start < len(calls):
        end = start + call_length(calls, start)
        answer = answer_to(shelf, calls[start:end])
        given.append(len(answer))
        given.extend(answer)
        start = end
    return given
