"""The interface: a line of calls on one new object."""

from twowants.asks import answer
from twowants.table import Table

# How many whole numbers stand behind a call's number; behind those not named, none.
PLAIN = {0: 3, 1: 2}
# Behind these stands a list, with how many numbers it has before it.
LISTED = (2, 3, 4, 5)


def read_calls(calls):
    """The calls in order, each as its number and a list of what is handed in with it."""
    found = []
    at = 0
    while at < len(calls):
        number = calls[at]
        start = at + 1
        size = PLAIN.get(number, 0)
        if number in LISTED:
            size = calls[start]
            start = start + 1
        at = start + size
        found.append((number, calls[start:at]))
    return found


def answers(calls):
    """For each call, in order: how many numbers are answered, then these."""
    table = Table()
    told = []
    for number, row in read_calls(calls):
        numbers = answer(table, number, row)
        told.append(len(numbers))
        told.extend(numbers)
    return told
