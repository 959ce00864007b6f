"""Where the target fails: monotonicity violations and manipulations."""

from gameforms.choices import all_choices, positions_by_choice
from gameforms.masks import lowest_member, mask_of, positions_of_others
from gameforms.rankings import preferred_to


# Sets of profiles are masks of their positions: to compare every two profiles
# one by one would take long when there are many of them.
def first_monotonicity_violation(instance):
    profiles = all_choices(instance.domain_sizes())
    elsewhere = [positions_of_others(instance.target, outcome) for outcome in range(instance.alternative_count)]
    holding = [holding_profiles(instance, profiles, agent) for agent in range(instance.agent_count)]
    for profile, outcome in zip(profiles, instance.target):
        violating = elsewhere[outcome]
        for table, preference in zip(holding, profile):
            violating = violating & table[preference][outcome]
        if violating > 0:
            return profile + profiles[lowest_member(violating)]
    return None


# table[preference][outcome]: the profiles to which the agent may move from
# this preference without the outcome losing ground.
def holding_profiles(instance, profiles, agent):
    domain = instance.domains[agent]
    table = []
    for ranking in domain:
        row = []
        for outcome in range(instance.alternative_count):
            kept = [holds(ranking, moved, outcome) for moved in domain]
            row.append(mask_of([place for place, profile in enumerate(profiles) if kept[profile[agent]]]))
        table.append(row)
    return table


# Asked of the alternatives that are preferred: whatever isn't preferred to the
# outcome by the ranking stays so, if whatever the moved one prefers was preferred.
def holds(ranking, moved, outcome):
    preferred = preferred_to(ranking, outcome)
    return all([alternative in preferred for alternative in preferred_to(moved, outcome)])


def first_manipulation(instance):
    for position, profile in enumerate(all_choices(instance.domain_sizes())):
        outcome = instance.target[position]
        for agent in range(instance.agent_count):
            preference = manipulating_preference(instance, profile, agent, outcome)
            if preference is not None:
                return [agent, preference] + profile
    return None


def manipulating_preference(instance, profile, agent, outcome):
    preferred = preferred_to(instance.domains[agent][profile[agent]], outcome)
    reports = positions_by_choice(profile, agent, instance.domain_sizes())
    for preference, report in enumerate(reports):
        if instance.target[report] in preferred:
            return preference
    return None
