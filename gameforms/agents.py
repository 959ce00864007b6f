"""Answers a request: a list of calls on one new object."""

from gameforms.coalition_calls import answer_coalition_call
from gameforms.codes import INVALID, NO_INSTANCE, NOT_READY
from gameforms.domain_calls import answer_domain_call
from gameforms.dominance_calls import answer_dominance_call
from gameforms.equilibrium_calls import answer_equilibrium_call
from gameforms.instance import Instance
from gameforms.mechanism_calls import answer_mechanism_call
from gameforms.reading import read_calls
from gameforms.target_calls import answer_target_call

CREATE = 0
LAST_DOMAIN_CALL = 2
LAST_TARGET_CALL = 8
LAST_MECHANISM_CALL = 13
LAST_EQUILIBRIUM_CALL = 18
LAST_DOMINANCE_CALL = 21
LAST_COALITION_CALL = 23
CALLS_WHEN_READY = (3, 4, 5, 6, 7, 8, 11, 14, 15, 16, 17, 18, 21)


def answers(calls):
    instance = None
    answered = []
    for number, arguments in read_calls(calls):
        if number != CREATE:
            answer = answer_call(instance, number, arguments)
        elif can_create(arguments[0], arguments[1]):
            instance = Instance(arguments[0], arguments[1])
            answer = [0]
        else:
            answer = [INVALID]
        answered.append(len(answer))
        answered.extend(answer)
    return answered


def can_create(agent_count, alternative_count):
    return 1 <= agent_count <= 3 and 2 <= alternative_count <= 4


def answer_call(instance, number, arguments):
    if instance is None:
        return [NO_INSTANCE]
    if number in CALLS_WHEN_READY and not instance.is_ready():
        return [NOT_READY]
    if number <= LAST_DOMAIN_CALL:
        return answer_domain_call(instance, number, arguments)
    if number <= LAST_TARGET_CALL:
        return answer_target_call(instance, number, arguments)
    if number <= LAST_MECHANISM_CALL:
        return answer_mechanism_call(instance, number, arguments)
    if number <= LAST_EQUILIBRIUM_CALL:
        return answer_equilibrium_call(instance, number, arguments)
    if number <= LAST_DOMINANCE_CALL:
        return answer_dominance_call(instance, number, arguments)
    if number <= LAST_COALITION_CALL:
        return answer_coalition_call(instance, number, arguments)
    return describe(instance)


def describe(instance):
    return [instance.agent_count, instance.alternative_count] + instance.domain_sizes()
