"""The calls 12 to 21: what is asked of a table; none of them changes it."""

from ordersatonce.aftermath import ways_behind, whereabouts
from ordersatonce.cuts import cut_supports
from ordersatonce.field import Field, telling
from ordersatonce.outcome import agrees, least, most, reckon, rings


def listed(provinces):
    """A done call's answers that are how many provinces, and they, rising."""
    return [0, len(provinces)] + sorted(provinces)


def ask_order(table, numbers):
    p = numbers[0]
    if p not in table.units:
        return [-5]
    unit = table.units[p]
    field = Field(table)
    apt = 1 if field.apt(p) else 0
    return [0, unit.power, unit.fleet, unit.shore] + list(field.orders[p]) + [apt, unit.way]


def ask_strengths(table, numbers):
    p = numbers[0]
    if p not in table.units:
        return [-5]
    field = Field(table)
    reckoning = reckon(field, telling(field, numbers[1:]))
    if field.stands(p):
        return [0, 0, 0, 0, 0, reckoning.holding(p), 0]
    goes = 1 if reckoning.goes(p) else 0
    strengths = [reckoning.attack(p), reckoning.wall(p), reckoning.greatest(p), reckoning.keeps(p)]
    return [0] + strengths + [reckoning.holding(p), goes]


def ask_cuts(table, numbers):
    field = Field(table)
    cut = cut_supports(field, telling(field, numbers))
    return listed([p for p in cut if field.apt(p)])


def ask_agrees(table, numbers):
    field = Field(table)
    return [0, 1 if agrees(field, telling(field, numbers)) else 0]


def ask_most(table, numbers):
    return listed(most(Field(table)))


def ask_least(table, numbers):
    return listed(least(Field(table)))


def ask_rings(table, numbers):
    found = rings(Field(table))
    told = [0, len(found)]
    for ring in found:
        told.append(len(ring))
        told.extend(ring)
    return told


def ask_behind(table, numbers):
    field = Field(table)
    goers = telling(field, numbers)
    told = [0, len(table.units)]
    for p in table.units:
        told.extend([p, whereabouts(field, goers, p)])
    return told


def ask_ways(table, numbers):
    field = Field(table)
    return listed(ways_behind(table, field, telling(field, numbers)))


def ask_counts(table, numbers):
    ways = sum([unit.way for unit in table.units.values()])
    return [0, len(table.kinds), len(table.land_links), len(table.sea_links), len(table.units), ways]


ASKERS = {
    12: ask_order,
    13: ask_strengths,
    14: ask_cuts,
    15: ask_agrees,
    16: ask_most,
    17: ask_least,
    18: ask_rings,
    19: ask_behind,
    20: ask_ways,
    21: ask_counts,
}


def ask(table, place, numbers):
    asker = ASKERS[place]
    return asker(table, numbers)
