"""What the tests share: lines of calls by name, and what a table holds."""

from ordersatonce.board import answer, answers

PLACES = {
    "clear": 0, "province": 1, "land": 2, "sea": 3, "unit": 4, "gone": 5,
    "hold": 6, "move": 7, "stay": 8, "aid": 9, "carry": 10,
    "way": 11, "order": 12, "strengths": 13, "cuts": 14, "agrees": 15, "most": 16, "least": 17, "rings": 18,
    "behind": 19, "ways": 20, "counts": 21,
}
BIG = 1000000000000000000
INLAND, WATER, COAST = 0, 1, 2
ARMY, FLEET = 0, 1


def laid_out(calls):
    """The list for a row of calls such as ("land", 0, 1)."""
    whole = []
    for name, *numbers in calls:
        whole += [PLACES[name], len(numbers), *numbers, 0]
    return whole


def rows(told):
    """The answers, a list each, out of the list that holds them all."""
    found = []
    at = 0
    while at < len(told):
        end = at + 1 + told[at]
        if told[at] < 1 or end > len(told):
            raise ValueError(f"no row of answers at {at} of {told}")
        found.append(told[at + 1:end])
        at = end
    return found


def ask(*calls):
    """The answers of a line, a list for each call."""
    return rows(answers(laid_out(calls)))


def last(*calls):
    """The last call's answers; what stands ahead of it must be done."""
    found = ask(*calls)
    for call, row in zip(calls[:-1], found):
        if row[0] != 0:
            raise ValueError(f"{call} is refused: {row}")
    return found[-1]


def do(table, name, *numbers):
    """One call on a table that the test holds in its hands."""
    return answer(table, PLACES[name], list(numbers))


def holds(table):
    """All that a table holds, copied, with the units in the order in which they were set."""
    units = [(p, dict(vars(unit))) for p, unit in table.units.items()]
    return (list(table.kinds), list(table.land_links), list(table.sea_links), units)


def provinces(*kinds):
    return [("province", kind) for kind in kinds]


def pairs(count):
    return [(p, q) for q in range(count) for p in range(q)]


def inland(count):
    """Provinces of land, each joined with each other."""
    return [*provinces(*[INLAND] * count), *[("land", p, q) for p, q in pairs(count)]]


def coasts(count):
    """Coasts, each joined with each other by land, so that an army's move says by itself whether it is by water."""
    return [*provinces(*[COAST] * count), *[("land", p, q) for p, q in pairs(count)]]


def army(power, p):
    return ("unit", power, ARMY, p, 0)


def armies(*powers):
    """Armies of these powers in the provinces from 0 on; None leaves a province empty."""
    return [army(power, p) for p, power in enumerate(powers) if power is not None]


def march(p, q):
    return ("move", p, q, 0, 0)


def sail(p, q):
    return ("move", p, q, 0, 1)
