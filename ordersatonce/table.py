"""The table that one line of calls is played on."""

LAND = 0
SEA = 1
COAST = 2

MOVE = 1
STAY = 2
AID = 3
CARRY = 4
HOLD = (0, 0, 0, 0)


class Unit:
    """An army or a fleet; the province that it stands in is its key in the table."""

    def __init__(self, power, fleet, shore):
        self.power = power
        self.fleet = fleet
        self.shore = shore
        # Kept as it was given: a link that comes later may change what it counts as.
        self.order = HOLD
        # Only a province with a unit can have a way, so the way is kept here and goes with the unit.
        self.way = 0


class Table:
    """The provinces, the links between them and the units on them."""

    def __init__(self):
        self.wipe()

    def wipe(self):
        self.kinds = []
        self.land_links = {}
        self.sea_links = {}
        # The order of the keys is the order in which the units were set.
        self.units = {}
