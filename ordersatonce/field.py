"""The units of a table with their orders as they count."""

from ordersatonce.counting import counted_order
from ordersatonce.table import AID, MOVE, STAY


class Field:
    """Read off a table anew for each question, so that nothing is to be kept up when the table changes."""

    def __init__(self, table):
        self.units = table.units
        # The order of each unit, by its province.
        self.orders = {}
        # The provinces of the units that have an order, by the order.
        self.given = {}
        # The goal of each unit that moves, by its province.
        self.goals = {}
        # The provinces from which units move into a province, by the latter.
        self.coming = {}
        for p in table.units:
            self.take_in(p, counted_order(table, p))

    def take_in(self, p, order):
        self.orders[p] = order
        self.given.setdefault(order, []).append(p)
        if order[0] == MOVE:
            q = order[1]
            self.goals[p] = q
            self.coming.setdefault(q, []).append(p)

    def power_of(self, p):
        return self.units[p].power

    def stands(self, p):
        return p in self.orders and p not in self.goals

    def supports(self, p):
        return self.orders[p][0] in (STAY, AID)

    def apt(self, p):
        order = self.orders[p]
        if order[0] == STAY:
            return self.stands(order[1])
        return order[0] == AID and self.goals.get(order[1]) == order[2]

    def by_water(self, p):
        """Whether the move from p is by water."""
        return self.orders[p][3] == 1

    def has_way(self, p):
        return not self.by_water(p) or self.units[p].way == 1

    def head_to_head(self, p):
        """Whether the move from p is head to head with that of the unit in its goal."""
        q = self.goals[p]
        return self.goals.get(q) == p and not self.by_water(p) and not self.by_water(q)


def telling(field, provinces):
    """The moves told to go: of the provinces named those whose units move."""
    told = {}
    for p in provinces:
        if p in field.goals:
            told[p] = True
    return told
