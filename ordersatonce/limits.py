"""The refusal that all calls share: a number outside the range told for it, or too many provinces behind."""

# Of the calls that have provinces behind, the numbers ahead of these.
NUMBERS = {
    0: (),
    1: ("kind",),
    2: ("province", "province"),
    3: ("province", "shore", "province", "shore"),
    4: ("power", "fleet", "province", "shore"),
    5: ("province",),
    6: ("province",),
    7: ("province", "province", "shore", "water"),
    8: ("province", "province"),
    9: ("province", "province", "province"),
    10: ("province", "province", "province"),
    11: ("province", "way"),
    12: ("province",),
    13: ("province",),
    14: (),
    15: (),
    16: (),
    17: (),
    18: (),
    19: (),
    20: (),
    21: (),
}

GREATEST = {"kind": 2, "shore": 3, "power": 6, "fleet": 1, "water": 1, "way": 1}

MOST_BEHIND = 24


def greatest(table, name):
    if name == "province":
        return len(table.kinds) - 1
    return GREATEST[name]


def in_range(table, place, numbers):
    names = NUMBERS[place]
    # A call has just its numbers, so what is more than these are the provinces behind.
    behind = len(numbers) - len(names)
    if behind > MOST_BEHIND:
        return False
    for name, number in zip(names + ("province",) * behind, numbers):
        if number < 0 or number > greatest(table, name):
            return False
    return True
