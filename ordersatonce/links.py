"""Links of land, which join two provinces, and links of sea, which join two places."""

SHORES = 4


def both_ways(one, other):
    """A link's one name, whichever end is told first."""
    return (min(one, other), max(one, other))


def land_joins(table, p, q):
    return both_ways(p, q) in table.land_links


def sea_joins(table, place, other):
    return both_ways(place, other) in table.sea_links


def sea_joins_province(table, place, q):
    """Whether a link of sea joins the place with the province at some shore."""
    return any([sea_joins(table, place, (q, t)) for t in range(SHORES)])
