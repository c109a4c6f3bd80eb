"""The calls 0 to 5: the board is laid, units are set and taken away."""

from ordersatonce.links import both_ways
from ordersatonce.table import LAND, SEA, Unit

MOST_PROVINCES = 40
MOST_LAND_LINKS = 300
MOST_SEA_LINKS = 300
MOST_UNITS = 24


def clear_table(table, numbers):
    table.wipe()
    return [0]


def add_province(table, numbers):
    count = len(table.kinds)
    if count == MOST_PROVINCES:
        return [-2]
    table.kinds.append(numbers[0])
    return [0, count]


def add_link(links, link, most):
    if link in links:
        return [-4]
    if len(links) == most:
        return [-2]
    links[link] = True
    return [0]


def can_join(table, p, q, barred):
    return p != q and table.kinds[p] != barred and table.kinds[q] != barred


def join_land(table, numbers):
    p = numbers[0]
    q = numbers[1]
    if not can_join(table, p, q, SEA):
        return [-3]
    return add_link(table.land_links, both_ways(p, q), MOST_LAND_LINKS)


def join_sea(table, numbers):
    p = numbers[0]
    q = numbers[2]
    if not can_join(table, p, q, LAND):
        return [-3]
    link = both_ways((p, numbers[1]), (q, numbers[3]))
    return add_link(table.sea_links, link, MOST_SEA_LINKS)


def can_stand(fleet, kind, shore):
    if fleet == 1:
        return kind != LAND
    return kind != SEA and shore == 0


def set_unit(table, numbers):
    fleet = numbers[1]
    p = numbers[2]
    shore = numbers[3]
    if not can_stand(fleet, table.kinds[p], shore):
        return [-3]
    if p in table.units:
        return [-4]
    if len(table.units) == MOST_UNITS:
        return [-2]
    table.units[p] = Unit(numbers[0], fleet, shore)
    return [0]


def take_unit(table, numbers):
    p = numbers[0]
    if p not in table.units:
        return [-5]
    table.units.pop(p)
    return [0]


DOERS = {0: clear_table, 1: add_province, 2: join_land, 3: join_sea, 4: set_unit, 5: take_unit}


def lay(table, place, numbers):
    doer = DOERS[place]
    return doer(table, numbers)
