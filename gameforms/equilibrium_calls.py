"""The calls about Nash equilibria: 14 to 18. They need an instance that is ready."""

from gameforms.choices import all_choices, fits
from gameforms.codes import INVALID, NONE_FOUND, NO_END
from gameforms.equilibria import best_response_step, equilibrium_positions, resting_table
from gameforms.implementation import answer_implementation
from gameforms.masks import mask_of, members_of

MOST_STEPS = 100


def answer_equilibrium_call(instance, number, arguments):
    if number == 14:
        return count_equilibria(instance, arguments[0])
    if number == 15:
        return equilibrium(instance, arguments[0], arguments[1])
    if number == 16:
        return equilibrium_outcomes(instance, arguments[0])
    if number == 17:
        return implements_in_nash(instance)
    return best_response_dynamics(instance, arguments[0])


def count_equilibria(instance, profile):
    if not fits(profile, instance.domain_sizes()):
        return [INVALID]
    return [len(members_of(equilibrium_positions(instance, profile)))]


def equilibrium(instance, index, profile):
    if not fits(profile, instance.domain_sizes()):
        return [INVALID]
    positions = members_of(equilibrium_positions(instance, profile))
    if index >= len(positions):
        return [NONE_FOUND]
    messages = all_choices(instance.message_counts)[positions[index]]
    return [instance.agent_count] + messages


def equilibrium_outcomes(instance, profile):
    if not fits(profile, instance.domain_sizes()):
        return [INVALID]
    positions = members_of(equilibrium_positions(instance, profile))
    return [mask_of([instance.mechanism[position] for position in positions])]


def implements_in_nash(instance):
    tables = [resting_table(instance, agent) for agent in range(instance.agent_count)]
    return answer_implementation(instance, tables)


def best_response_dynamics(instance, profile_and_messages):
    profile = profile_and_messages[:instance.agent_count]
    messages = profile_and_messages[instance.agent_count:]
    if not fits(profile, instance.domain_sizes()) or not fits(messages, instance.message_counts):
        return [INVALID]
    rankings = instance.rankings_of(profile)
    # Once more than the steps: the message profile after the last one may be an equilibrium.
    for step_count in range(MOST_STEPS + 1):
        changed = best_response_step(instance, rankings, messages)
        if changed is None:
            return [step_count] + messages
        messages = changed
    return [NO_END]
