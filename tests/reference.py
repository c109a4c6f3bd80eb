"""The document once more, sentence by sentence and without haste: what the program's answers are held against."""

LAND, SEA, COAST = 0, 1, 2
SHORES = range(4)
WITH_PROVINCES_BEHIND = {"strengths": 1, "cuts": 0, "agrees": 0, "behind": 0, "ways": 0}


class Reference:
    def __init__(self):
        self.clear()

    def call(self, name, *numbers):
        """The answers of a call, a list."""
        if not self.inside(name, numbers):
            return [-1]
        if name in ("gone", "hold", "move", "stay", "aid", "carry", "way", "order", "strengths"):
            if numbers[0] not in self.units:
                return [-5]
        if name in ("hold", "move", "stay", "aid", "carry"):
            self.units[numbers[0]]["told"] = (name, *numbers[1:])
            return [0]
        told = getattr(self, name)(*numbers)
        return told if told and told[0] < 0 else [0, *told]

    def inside(self, name, numbers):
        province = range(len(self.kinds))
        ranges = {
            "clear": [], "province": [range(3)], "land": [province] * 2, "sea": [province, SHORES] * 2,
            "unit": [range(7), range(2), province, SHORES], "gone": [province], "hold": [province],
            "move": [province, province, SHORES, range(2)], "stay": [province] * 2, "aid": [province] * 3,
            "carry": [province] * 3, "way": [province, range(2)], "order": [province],
            "most": [], "least": [], "rings": [], "counts": [],
        }
        if name in WITH_PROVINCES_BEHIND:
            if len(numbers) - WITH_PROVINCES_BEHIND[name] > 24:
                return False
            return all(number in province for number in numbers)
        assert len(numbers) == len(ranges[name])
        return all(number in told for number, told in zip(numbers, ranges[name]))

    # The calls 0 to 5, and 11.

    def clear(self):
        self.kinds, self.land_links, self.sea_links, self.units, self.ways_told = [], set(), set(), {}, set()
        return []

    def province(self, kind):
        if len(self.kinds) == 40:
            return [-2]
        self.kinds.append(kind)
        return [len(self.kinds) - 1]

    def land(self, p, q):
        return self.link(self.land_links, p, q, SEA, frozenset((p, q)))

    def sea(self, p, s, q, t):
        return self.link(self.sea_links, p, q, LAND, frozenset(((p, s), (q, t))))

    def link(self, links, p, q, barred, ends):
        if p == q or barred in (self.kinds[p], self.kinds[q]):
            return [-3]
        if ends in links:
            return [-4]
        if len(links) == 300:
            return [-2]
        links.add(ends)
        return []

    def unit(self, power, fleet, p, s):
        if not fleet and (self.kinds[p] == SEA or s != 0) or fleet and self.kinds[p] == LAND:
            return [-3]
        if p in self.units:
            return [-4]
        if len(self.units) == 24:
            return [-2]
        self.units[p] = {"power": power, "fleet": fleet, "shore": s, "told": ("hold",)}
        return []

    def gone(self, p):
        del self.units[p]
        self.ways_told.discard(p)
        return []

    def way(self, p, x):
        self.ways_told.discard(p)
        if x == 1:
            self.ways_told.add(p)
        return []

    # The board, units, orders.

    def joined(self, place, other):
        return frozenset((place, other)) in self.sea_links

    def place(self, p):
        return p, self.units[p]["shore"]

    def reaches(self, p, q):
        if self.units[p]["fleet"]:
            return any(self.joined(self.place(p), (q, t)) for t in SHORES)
        return self.kinds[q] != SEA and frozenset((p, q)) in self.land_links

    def counted(self, p):
        name, *numbers = self.units[p]["told"]
        fleet = self.units[p]["fleet"]
        if name == "move":
            q, t, water = numbers
            if fleet and not water and q != p and self.joined(self.place(p), (q, t)):
                return 1, q, t, 0
            if not fleet and not water and q != p and self.reaches(p, q):
                return 1, q, 0, 0
            if not fleet and q != p and self.kinds[p] == COAST and self.kinds[q] == COAST:
                return 1, q, 0, 1
        if name == "stay":
            q, = numbers
            if q != p and self.reaches(p, q):
                return 2, q, 0, 0
        if name == "aid":
            a, q = numbers
            if len({a, q, p}) == 3 and self.reaches(p, q):
                return 3, a, q, 0
        if name == "carry":
            a, q = numbers
            if fleet and self.kinds[p] == SEA and a != q:
                return 4, a, q, 0
        return 0, 0, 0, 0

    def moves(self, p):
        return p in self.units and self.counted(p)[0] == 1

    def goal(self, p):
        return self.counted(p)[1]

    def movers(self):
        return [p for p in self.units if self.moves(p)]

    def into(self, q):
        return [p for p in self.movers() if self.goal(p) == q]

    def apt(self, p):
        kind, one, other, last = self.counted(p)
        if kind == 2:
            return one in self.units and not self.moves(one)
        if kind == 3:
            return one in self.units and self.moves(one) and self.goal(one) == other
        return False

    # What each comes to. "going" is the telling, "cutting" the telling by which supports are cut.

    def power(self, p):
        return self.units[p]["power"]

    def by_water(self, p):
        return self.counted(p)[3] == 1

    def has_its_way(self, p):
        return not self.by_water(p) or p in self.ways_told

    def head_to_head(self, p):
        q = self.goal(p)
        return self.moves(q) and self.goal(q) == p and not self.by_water(p) and not self.by_water(q)

    def left(self, p, going):
        return self.moves(p) and p in going

    def cut(self, p, cutting):
        kind, one, other, last = self.counted(p)
        for comer in self.into(p):
            if self.power(comer) != self.power(p) and self.has_its_way(comer):
                if kind == 2 or (kind == 3 and comer != other) or comer in cutting:
                    return True
        return False

    def helpers(self, p, cutting):
        order = (3, p, self.goal(p), 0)
        return [h for h in self.units if self.counted(h) == order and not self.cut(h, cutting)]

    def attack(self, p, going, cutting):
        q = self.goal(p)
        if not self.has_its_way(p):
            return 0
        helpers = self.helpers(p, cutting)
        if q not in self.units or (self.left(q, going) and not self.head_to_head(p)):
            return 1 + len(helpers)
        if self.power(q) == self.power(p):
            return 0
        return 1 + sum(self.power(h) != self.power(q) for h in helpers)

    def keeps(self, p, going, cutting):
        if not self.has_its_way(p) or (self.head_to_head(p) and self.goal(p) in going):
            return 0
        return 1 + len(self.helpers(p, cutting))

    def holds(self, q, going, cutting):
        if q not in self.units:
            return 0
        if self.moves(q):
            return 0 if q in going else 1
        return 1 + sum(self.counted(u) == (2, q, 0, 0) and not self.cut(u, cutting) for u in self.units)

    def wall(self, p, going, cutting):
        if self.head_to_head(p):
            return 1 + len(self.helpers(self.goal(p), cutting))
        return self.holds(self.goal(p), going, cutting)

    def others(self, p, going, cutting):
        return [self.keeps(other, going, cutting) for other in self.into(self.goal(p)) if other != p]

    def goes(self, p, going, cutting):
        attack = self.attack(p, going, cutting)
        if not self.has_its_way(p) or not attack > self.wall(p, going, cutting):
            return False
        return all(attack > kept for kept in self.others(p, going, cutting))

    # The calls 12 to 21.

    def order(self, p):
        unit = self.units[p]
        return [
            unit["power"], unit["fleet"], unit["shore"], *self.counted(p), int(self.apt(p)), int(p in self.ways_told),
        ]

    def strengths(self, p, *going):
        held = self.holds(p, going, going)
        if not self.moves(p):
            return [0, 0, 0, 0, held, 0]
        greatest = max([0, *self.others(p, going, going)])
        row = [self.attack(p, going, going), self.wall(p, going, going), greatest, self.keeps(p, going, going)]
        return [*row, held, int(self.goes(p, going, going))]

    def cuts(self, *going):
        found = [p for p in self.units if self.apt(p) and self.cut(p, going)]
        return [len(found), *sorted(found)]

    def agrees(self, *going):
        return [int(all((p in going) == self.goes(p, going, going) for p in self.movers()))]

    def settled(self, going):
        standing = [p for p in self.movers() if self.goal(p) in self.units and not self.moves(self.goal(p))]
        first = {p for p in standing if self.goes(p, set(), set())}
        for time in self.units:
            going = {p for p in self.movers() if self.goes(p, going, first)}
        assert going == {p for p in self.movers() if self.goes(p, going, first)}
        return going

    def most_of_all(self):
        return self.settled(set(self.movers()))

    def least_of_all(self):
        return self.settled(set())

    def most(self):
        found = self.most_of_all()
        return [len(found), *sorted(found)]

    def least(self):
        found = self.least_of_all()
        return [len(found), *sorted(found)]

    def rings(self):
        undecided = self.most_of_all() - self.least_of_all()
        found = []
        for p in self.units:
            ring = [p]
            while ring[-1] in undecided and len(ring) <= len(undecided):
                q = self.goal(ring[-1])
                if q == p:
                    if p == min(ring):
                        found.append(ring)
                    break
                ring.append(q)
        return [len(found)] + [number for ring in found for number in (len(ring), *ring)]

    def driven_out(self, p, going):
        return not self.left(p, going) and any(comer in going for comer in self.into(p))

    def behind(self, *going):
        row = [len(self.units)]
        for p in self.units:
            row += [p, self.goal(p) if self.left(p, going) else -1 if self.driven_out(p, going) else p]
        return row

    def ways(self, *going):
        found = [p for p in self.movers() if self.by_water(p) and self.chain(p, self.goal(p), going)]
        return [len(found), *sorted(found)]

    def chain(self, a, q, going):
        fleets = {f for f in self.units if self.counted(f) == (4, a, q, 0) and not self.driven_out(f, going)}
        ends = {f for f in fleets if self.reaches(f, a)}
        for time in fleets:
            ends |= {f for f in fleets if any(self.joined(self.place(f), self.place(end)) for end in ends)}
        return any(self.reaches(end, q) for end in ends)

    def counts(self):
        return [len(self.kinds), len(self.land_links), len(self.sea_links), len(self.units), len(self.ways_told)]
