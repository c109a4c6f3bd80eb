"""Which supports are cut."""

from ordersatonce.table import STAY


def comer_cuts(field, told, comer, p):
    """Whether the unit that moves from comer into p cuts the support of the unit in p."""
    if field.power_of(comer) == field.power_of(p) or not field.has_way(comer):
        return False
    order = field.orders[p]
    return order[0] == STAY or comer != order[2] or comer in told


def is_cut(field, told, p):
    return any([comer_cuts(field, told, comer, p) for comer in field.coming.get(p, [])])


def cut_supports(field, told):
    """The provinces of the units whose support is cut, apt or not."""
    cut = {}
    for p in field.orders:
        if field.supports(p) and is_cut(field, told, p):
            cut[p] = True
    return cut
