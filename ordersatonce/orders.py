"""The calls 6 to 11: a unit is given its order, and its province a way or none."""

FIRST_ORDER = 6
ORDER_LENGTH = 4
WAY = 11


def as_order(place, numbers):
    """The order in four numbers, as given: its kind, then the call's numbers behind p."""
    row = [place - FIRST_ORDER] + numbers[1:]
    return tuple(row + [0] * (ORDER_LENGTH - len(row)))


def tell_unit(table, place, numbers):
    p = numbers[0]
    if p not in table.units:
        return [-5]
    unit = table.units[p]
    if place == WAY:
        unit.way = numbers[1]
    else:
        unit.order = as_order(place, numbers)
    return [0]
