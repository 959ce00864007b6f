"""The calls that set or read the mechanism: 9 to 13."""

from gameforms.choices import count_choices, fits, position_of
from gameforms.codes import INVALID

MOST_MESSAGES = 6


def answer_mechanism_call(instance, number, arguments):
    if number == 9:
        return set_message_counts(instance, arguments[0])
    if number == 10:
        return set_mechanism_outcome(instance, arguments[0], arguments[1])
    if number == 11:
        return use_direct_mechanism(instance)
    if number == 12:
        return mechanism_outcome(instance, arguments[0])
    return tell_message_counts(instance)


def set_message_counts(instance, message_counts):
    if len(message_counts) != instance.agent_count:
        return [INVALID]
    if min(message_counts) < 1 or max(message_counts) > MOST_MESSAGES:
        return [INVALID]
    instance.message_counts = list(message_counts)
    instance.mechanism = [0] * count_choices(message_counts)
    return [len(instance.mechanism)]


def set_mechanism_outcome(instance, alternative, messages):
    if alternative >= instance.alternative_count or not fits(messages, instance.message_counts):
        return [INVALID]
    position = position_of(messages, instance.message_counts)
    previous = instance.mechanism[position]
    instance.mechanism[position] = alternative
    return [previous]


def use_direct_mechanism(instance):
    instance.message_counts = instance.domain_sizes()
    # A copy, as later changes of the target don't reach the mechanism.
    instance.mechanism = list(instance.target)
    return [len(instance.mechanism)]


def mechanism_outcome(instance, messages):
    if not fits(messages, instance.message_counts):
        return [INVALID]
    return [instance.mechanism[position_of(messages, instance.message_counts)]]


def tell_message_counts(instance):
    return [instance.agent_count] + instance.message_counts
