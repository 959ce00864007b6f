"""The calls about dominant and dominated messages: 19 to 21. The last needs an instance that is ready."""

from gameforms.choices import lines_of
from gameforms.codes import UNKNOWN
from gameforms.dominance import dominant_table, find_dominant, find_dominated, place_rows
from gameforms.implementation import answer_implementation
from gameforms.masks import mask_of


def answer_dominance_call(instance, number, arguments):
    if number == 19:
        return dominant_messages(instance, arguments[0], arguments[1])
    if number == 20:
        return dominated_messages(instance, arguments[0], arguments[1])
    return implements_in_dominant_strategies(instance)


def has_preference(instance, agent, preference):
    return agent < instance.agent_count and preference < len(instance.domains[agent])


def rows_of(instance, agent, preference):
    lines = lines_of(agent, instance.message_counts)
    return place_rows(lines, instance.mechanism, instance.domains[agent][preference])


def dominant_messages(instance, agent, preference):
    if not has_preference(instance, agent, preference):
        return [UNKNOWN]
    return [mask_of(find_dominant(rows_of(instance, agent, preference)))]


def dominated_messages(instance, agent, preference):
    if not has_preference(instance, agent, preference):
        return [UNKNOWN]
    return [mask_of(find_dominated(rows_of(instance, agent, preference)))]


def implements_in_dominant_strategies(instance):
    tables = [dominant_table(instance, agent) for agent in range(instance.agent_count)]
    return answer_implementation(instance, tables)
