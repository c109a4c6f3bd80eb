"""Where the units are behind a telling, and the ways behind it."""

from ordersatonce.links import sea_joins, sea_joins_province
from ordersatonce.table import CARRY


def driven_out(field, told, p):
    return p not in told and any([comer in told for comer in field.coming.get(p, [])])


def whereabouts(field, told, p):
    """The province that the unit in p is in behind the telling; -1 if it is driven out."""
    if p in told:
        return field.goals[p]
    return -1 if driven_out(field, told, p) else p


def chain_leads(table, places, p, q):
    """Whether some of the places are a chain from the province p to q."""
    reached = [place for place in places if sea_joins_province(table, place, p)]
    at = 0
    while at < len(reached):
        here = reached[at]
        if sea_joins_province(table, here, q):
            return True
        reached.extend([place for place in places if place not in reached and sea_joins(table, here, place)])
        at += 1
    return False


def carriers(field, told, p):
    """The places of the fleets that carry from p to its unit's goal and are not driven out."""
    fleets = field.given.get((CARRY, p, field.goals[p], 0), [])
    return [(fleet, field.units[fleet].shore) for fleet in fleets if not driven_out(field, told, fleet)]


def ways_behind(table, field, told):
    """The provinces of the units that move by water and have a chain, whether or not they were told a way."""
    carried = [p for p in field.goals if field.by_water(p)]
    return [p for p in carried if chain_leads(table, carriers(field, told, p), p, field.goals[p])]
