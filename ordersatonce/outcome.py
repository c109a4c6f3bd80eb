"""Whether a telling agrees, the most and the least that can go, and the rings."""

from ordersatonce.cuts import cut_supports
from ordersatonce.field import telling
from ordersatonce.reckoning import Reckoning


def reckon(field, told):
    """A reckoning in which the supports are cut by the telling itself."""
    return Reckoning(field, told, cut_supports(field, told))


def agrees(field, told):
    return reckon(field, told).going() == told


def worked_out_first(field):
    """The moves that go against a unit that stands: no telling makes a difference to them."""
    reckoning = reckon(field, {})
    found = {}
    for p, q in field.goals.items():
        if field.stands(q) and reckoning.goes(p):
            found[p] = True
    return found


def settled(field, told):
    """What a telling comes to, when again and again it becomes those moves that go by the rules given it."""
    cut = cut_supports(field, worked_out_first(field))
    going = Reckoning(field, told, cut).going()
    while going != told:
        told = going
        going = Reckoning(field, told, cut).going()
    return told


def most(field):
    return settled(field, telling(field, field.goals))


def least(field):
    return settled(field, {})


def ring_from(free, p):
    """The ring that p is of, from p on; empty if it is of none."""
    row = [p]
    at = free[p]
    while at in free and at not in row:
        row.append(at)
        at = free[at]
    return row if at == p else []


def free_moves(field):
    """The goals of the moves that are among the most, but not among the least."""
    fewest = least(field)
    free = {}
    for p in most(field):
        if p not in fewest:
            free[p] = field.goals[p]
    return free


def rings(field):
    free = free_moves(field)
    found = []
    for p in field.units:
        row = ring_from(free, p) if p in free else []
        if row and p == min(row):
            found.append(row)
    return found
