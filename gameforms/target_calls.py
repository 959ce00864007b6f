"""The calls that set or examine the target: 3 to 8. They need an instance that is ready."""

from gameforms.choices import all_choices, fits, position_of
from gameforms.codes import INVALID, NONE_FOUND, UNKNOWN
from gameforms.target_faults import first_manipulation, first_monotonicity_violation
from gameforms.target_rules import borda_outcome, dictatorship_outcome


def answer_target_call(instance, number, arguments):
    if number == 3:
        return set_target_outcome(instance, arguments[0], arguments[1])
    if number == 4:
        return use_dictatorship(instance, arguments[0])
    if number == 5:
        return use_borda(instance)
    if number == 6:
        return target_outcome(instance, arguments[0])
    if number == 7:
        return monotonicity_violation(instance)
    return find_manipulation(instance)


def set_target_outcome(instance, alternative, profile):
    sizes = instance.domain_sizes()
    if alternative >= instance.alternative_count or not fits(profile, sizes):
        return [INVALID]
    position = position_of(profile, sizes)
    previous = instance.target[position]
    instance.target[position] = alternative
    return [previous]


def use_dictatorship(instance, agent):
    if agent >= instance.agent_count:
        return [UNKNOWN]
    profiles = all_choices(instance.domain_sizes())
    instance.target = [dictatorship_outcome(instance.rankings_of(profile), agent) for profile in profiles]
    return [0]


def use_borda(instance):
    alternative_count = instance.alternative_count
    profiles = all_choices(instance.domain_sizes())
    instance.target = [borda_outcome(instance.rankings_of(profile), alternative_count) for profile in profiles]
    return [0]


def target_outcome(instance, profile):
    sizes = instance.domain_sizes()
    if not fits(profile, sizes):
        return [INVALID]
    return [instance.target[position_of(profile, sizes)]]


def monotonicity_violation(instance):
    violation = first_monotonicity_violation(instance)
    if violation is None:
        return [0]
    return [1] + violation


def find_manipulation(instance):
    manipulation = first_manipulation(instance)
    if manipulation is None:
        return [NONE_FOUND]
    return manipulation
