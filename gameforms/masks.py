"""Sets of whole numbers as one integer: the sum of 2^x over what is in the set."""


def mask_of(members):
    mask = 0
    for member in members:
        mask = mask | (1 << member)
    return mask


def lowest_member(mask):
    # The sign turned round keeps the lowest bit alone common to both.
    return (mask & -mask).bit_length() - 1


def members_of(mask):
    return [member for member in range(mask.bit_length()) if (mask >> member) & 1 == 1]


def positions_of_others(table, outcome):
    return mask_of([position for position, other in enumerate(table) if other != outcome])
