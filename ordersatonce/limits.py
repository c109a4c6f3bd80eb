"""The refusal that all calls share: a number outside the range told for it."""

NUMBERS = {
    0: (),
    1: ("kind",),
    2: ("province", "province"),
    3: ("province", "shore", "province", "shore"),
    4: ("power", "fleet", "province", "shore"),
    5: ("province",),
    6: ("province",),
    7: ("province", "province", "shore", "water"),
    8: ("province", "province"),
    9: ("province", "province", "province"),
    10: ("province", "province", "province"),
}

GREATEST = {"kind": 2, "shore": 3, "power": 6, "fleet": 1, "water": 1}


def greatest(table, name):
    if name == "province":
        return len(table.kinds) - 1
    return GREATEST[name]


def in_range(table, place, numbers):
    for name, number in zip(NUMBERS[place], numbers):
        if number < 0 or number > greatest(table, name):
            return False
    return True
