"""Profiles and message profiles: lists with one choice for each agent.

Each agent chooses a number below its size. A table over all such lists is
one flat list, in their lexicographic order; a position is an index in it.
"""


def count_choices(sizes):
    total = 1
    for size in sizes:
        total = total * size
    return total


def fits(choices, sizes):
    if len(choices) != len(sizes):
        return False
    return all([choice < size for choice, size in zip(choices, sizes)])


def position_of(choices, sizes):
    position = 0
    for choice, size in zip(choices, sizes):
        position = position * size + choice
    return position


def all_choices(sizes):
    found = [[]]
    for size in sizes:
        longer = []
        for choices in found:
            longer.extend([choices + [choice] for choice in range(size)])
        found = longer
    return found


# The positions that one agent reaches by each of its choices, while the others keep theirs.
def positions_by_choice(choices, agent, sizes):
    step = count_choices(sizes[agent + 1:])
    lowest = position_of(choices, sizes) - choices[agent] * step
    return [lowest + choice * step for choice in range(sizes[agent])]


# Each line: the positions that one agent reaches by each of its choices, for one choice of the others.
def lines_of(agent, sizes):
    return [positions_by_choice(choices, agent, sizes) for choices in all_choices(sizes) if choices[agent] == 0]
