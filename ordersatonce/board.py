"""A line of calls on one table, and their answers."""

from ordersatonce.laying import lay
from ordersatonce.limits import in_range
from ordersatonce.orders import tell_unit
from ordersatonce.questions import ask
from ordersatonce.table import Table

LAST_LAYING = 5
LAST_TELLING = 11


def answer(table, place, numbers):
    """The answers of one call: 0 and what is told, or a refusal alone."""
    if not in_range(table, place, numbers):
        return [-1]
    if place <= LAST_LAYING:
        return lay(table, place, numbers)
    if place <= LAST_TELLING:
        return tell_unit(table, place, numbers)
    return ask(table, place, numbers)


def answers(calls):
    """The answers of all calls, each with how many numbers it has ahead of it."""
    table = Table()
    told = []
    at = 0
    while at < len(calls):
        first = at + 2
        behind = first + calls[at + 1]
        row = answer(table, calls[at], calls[first:behind])
        told.append(len(row))
        told.extend(row)
        # Behind the numbers stands the count of lists, which is 0 for every call.
        at = behind + 1
    return told
