"""The calls about what a coalition can bring about: 22 and 23."""

from gameforms.choices import all_choices
from gameforms.codes import INVALID
from gameforms.masks import members_of


def answer_coalition_call(instance, number, arguments):
    if number == 22:
        return can_force(instance, arguments[0], arguments[1])
    return can_respond(instance, arguments[0], arguments[1])


def can_force(instance, coalition, alternatives):
    if not all_exist(instance, coalition, alternatives):
        return [INVALID]
    reached = reached_sets(instance, members_of(coalition))
    return [1 if any([outcomes | alternatives == alternatives for outcomes in reached]) else 0]


def can_respond(instance, coalition, alternatives):
    if not all_exist(instance, coalition, alternatives):
        return [INVALID]
    members = members_of(coalition)
    others = [agent for agent in range(instance.agent_count) if agent not in members]
    reached = reached_sets(instance, others)
    return [1 if all([outcomes & alternatives > 0 for outcomes in reached]) else 0]


def all_exist(instance, coalition, alternatives):
    return coalition < 1 << instance.agent_count and alternatives < 1 << instance.alternative_count


# One set of alternatives for each combination of messages of these agents: the
# outcomes that it leaves open to all others.
def reached_sets(instance, agents):
    reached = {}
    for messages, outcome in zip(all_choices(instance.message_counts), instance.mechanism):
        sent = tuple([messages[agent] for agent in agents])
        reached[sent] = reached.get(sent, 0) | (1 << outcome)
    return list(reached.values())
