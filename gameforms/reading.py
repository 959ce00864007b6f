"""Reads the calls out of the one list in which they stand."""

# For each call: how many whole numbers it has, and how many rows after them.
CALL_SHAPES = {
    0: (2, 0),
    1: (1, 1),
    2: (1, 0),
    3: (1, 1),
    4: (1, 0),
    5: (0, 0),
    6: (0, 1),
    7: (0, 0),
    8: (0, 0),
    9: (0, 1),
    10: (1, 1),
    11: (0, 0),
    12: (0, 1),
    13: (0, 0),
    14: (0, 1),
    15: (1, 1),
    16: (0, 1),
    17: (0, 0),
    18: (0, 1),
    19: (2, 0),
    20: (2, 0),
    21: (0, 0),
    22: (2, 0),
    23: (2, 0),
    24: (0, 0),
}


def read_calls(calls):
    found = []
    start = 0
    while start < len(calls):
        number = calls[start]
        number_count, row_count = CALL_SHAPES[number]
        end = start + 1 + number_count
        arguments = calls[start + 1:end]
        for row in range(row_count):
            row_end = end + 1 + calls[end]
            arguments.append(calls[end + 1:row_end])
            end = row_end
        found.append((number, arguments))
        start = end
    return found
