"""Dominant and dominated messages of one agent for one ranking."""

from gameforms.choices import lines_of
from gameforms.masks import mask_of
from gameforms.rankings import places_on


# rows[k][message]: how far down the ranking the outcome stands, while the
# others send their k-th combination of messages.
def place_rows(lines, mechanism, ranking):
    return [places_on(line, mechanism, ranking) for line in lines]


def find_dominant(rows):
    return [message for message in range(len(rows[0])) if is_best(rows, message)]


def is_best(rows, message):
    return all([row[message] == min(row) for row in rows])


def find_dominated(rows):
    return [message for message in range(len(rows[0])) if is_dominated(rows, message)]


def is_dominated(rows, message):
    return any([dominates(rows, other, message) for other in range(len(rows[0]))])


def dominates(rows, better, worse):
    never_worse = all([row[better] <= row[worse] for row in rows])
    return never_worse and any([row[better] < row[worse] for row in rows])


# For each preference of the agent: the positions of the message profiles in
# which it sends a dominant message.
def dominant_table(instance, agent):
    lines = lines_of(agent, instance.message_counts)
    table = []
    for ranking in instance.domains[agent]:
        sent = []
        for message in find_dominant(place_rows(lines, instance.mechanism, ranking)):
            sent.extend([line[message] for line in lines])
        table.append(mask_of(sent))
    return table
