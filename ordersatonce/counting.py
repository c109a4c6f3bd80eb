"""What a unit reaches, and the order as it counts."""

from ordersatonce.links import land_joins, sea_joins, sea_joins_province
from ordersatonce.table import COAST, HOLD, MOVE, SEA


def reaches(table, p, q):
    unit = table.units[p]
    if unit.fleet == 1:
        return sea_joins_province(table, (p, unit.shore), q)
    # No link of land leads to a sea, so what it joins an army with is never one.
    return land_joins(table, p, q)


def counted_hold(table, p, order):
    return HOLD


def fleet_move(table, p, order):
    q = order[1]
    t = order[2]
    if order[3] == 0 and sea_joins(table, (p, table.units[p].shore), (q, t)):
        return (MOVE, q, t, 0)
    return HOLD


def army_move(table, p, order):
    q = order[1]
    if order[3] == 0 and reaches(table, p, q):
        return (MOVE, q, 0, 0)
    if q != p and table.kinds[p] == COAST and table.kinds[q] == COAST:
        return (MOVE, q, 0, 1)
    return HOLD


def counted_move(table, p, order):
    if table.units[p].fleet == 1:
        return fleet_move(table, p, order)
    return army_move(table, p, order)


def counted_stay(table, p, order):
    # No link joins a province with itself, so what a unit reaches is another one.
    if reaches(table, p, order[1]):
        return order
    return HOLD


def counted_aid(table, p, order):
    a = order[1]
    q = order[2]
    if a != p and a != q and reaches(table, p, q):
        return order
    return HOLD


def counted_carry(table, p, order):
    # Only fleets are in a sea, so the province alone is asked.
    if table.kinds[p] == SEA and order[1] != order[2]:
        return order
    return HOLD


# By the order's first number.
COUNTED = {0: counted_hold, 1: counted_move, 2: counted_stay, 3: counted_aid, 4: counted_carry}


def counted_order(table, p):
    order = table.units[p].order
    counted = COUNTED[order[0]]
    return counted(table, p, order)
