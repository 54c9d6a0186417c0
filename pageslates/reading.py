"""How calls are written one behind another in one list."""

# For the number of each call: how many single numbers it has, and whether a row follows them.
FORMS = {
    0: (0, True),
    1: (4, True),
    2: (2, False),
    3: (3, False),
    4: (2, False),
    5: (2, False),
    6: (1, False),
    7: (2, False),
    8: (2, False),
    9: (2, False),
    10: (1, False),
    11: (0, True),
    12: (0, True),
    13: (1, True),
    14: (0, False),
    15: (0, True),
    16: (1, False),
    17: (0, False),
    18: (0, True),
    19: (2, True),
    20: (0, True),
    21: (0, True),
    22: (1, False),
    23: (1, False),
    24: (1, False),
    25: (1, False),
    26: (0, False),
}


def split_calls(calls):
    """List each call as its number, its single numbers and its row (empty where it has none)."""
    split = []
    place = 0
    while place < len(calls):
        number = calls[place]
        form = FORMS[number]
        row_place = place + 1 + form[0]
        numbers = calls[place + 1:row_place]
        row = []
        place = row_place
        if form[1]:
            place = row_place + 1 + calls[row_place]
            row = calls[row_place + 1:place]
        split.append((number, numbers, row))
    return split
