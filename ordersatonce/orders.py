"""The calls 6 to 10: a unit is given its order."""

FIRST_ORDER = 6
ORDER_LENGTH = 4


def as_order(place, numbers):
    """The order in four numbers, as given: its kind, then the call's numbers behind p."""
    row = [place - FIRST_ORDER] + numbers[1:]
    return tuple(row + [0] * (ORDER_LENGTH - len(row)))


def give_order(table, place, numbers):
    p = numbers[0]
    if p not in table.units:
        return [-5]
    unit = table.units[p]
    unit.order = as_order(place, numbers)
    return [0]
