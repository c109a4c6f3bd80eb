"""Strengths, and which moves go by the rules."""

from ordersatonce.table import AID, STAY


class Reckoning:
    """A field with the moves that are told to go, and the supports that are cut.

    Both are handed in: for the most and the least the supports are not cut by the telling that is gone through.
    """

    def __init__(self, field, told, cut):
        self.field = field
        self.told = told
        self.cut = cut

    def uncut(self, order):
        """The provinces of the units that have this order and are not cut."""
        return [p for p in self.field.given.get(order, []) if p not in self.cut]

    def helpers(self, p):
        return self.uncut((AID, p, self.field.goals[p], 0))

    def finds_room(self, p):
        """Whether the move from p finds its goal empty, or left by a unit that it does not meet on the way."""
        q = self.field.goals[p]
        return q not in self.field.units or (q in self.told and not self.field.head_to_head(p))

    def attack(self, p):
        field = self.field
        if not field.has_way(p):
            return 0
        if self.finds_room(p):
            return 1 + len(self.helpers(p))
        power = field.power_of(field.goals[p])
        if power == field.power_of(p):
            return 0
        return 1 + len([helper for helper in self.helpers(p) if field.power_of(helper) != power])

    def keeps(self, p):
        """What the move from p keeps others out with."""
        field = self.field
        if not field.has_way(p) or (field.head_to_head(p) and field.goals[p] in self.told):
            return 0
        return 1 + len(self.helpers(p))

    def holding(self, p):
        """What holds the province p."""
        if p not in self.field.units:
            return 0
        if self.field.stands(p):
            return 1 + len(self.uncut((STAY, p, 0, 0)))
        return 0 if p in self.told else 1

    def wall(self, p):
        q = self.field.goals[p]
        if self.field.head_to_head(p):
            return 1 + len(self.helpers(q))
        return self.holding(q)

    def greatest(self, p):
        """The greatest that another move into the goal of the move from p keeps others out with."""
        comers = self.field.coming[self.field.goals[p]]
        return max([self.keeps(comer) for comer in comers if comer != p], default=0)

    def goes(self, p):
        """Whether the move from p goes by the rules."""
        # Without its way its attack is 0, which is never more than its wall.
        attack = self.attack(p)
        return attack > self.wall(p) and attack > self.greatest(p)

    def going(self):
        """The moves that go by the rules."""
        found = {}
        for p in self.field.goals:
            if self.goes(p):
                found[p] = True
        return found
