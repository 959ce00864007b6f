"""Whether the solutions of the mechanism lead to the target outcome of every profile."""

from gameforms.choices import all_choices
from gameforms.masks import positions_of_others


# tables[agent][preference]: the positions of the message profiles that the agent
# agrees to. The solutions for a profile are those that all agents agree to.
def answer_implementation(instance, tables):
    profiles = all_choices(instance.domain_sizes())
    elsewhere = [positions_of_others(instance.mechanism, outcome) for outcome in range(instance.alternative_count)]
    for profile, outcome in zip(profiles, instance.target):
        solutions = (1 << len(instance.mechanism)) - 1
        for table, preference in zip(tables, profile):
            solutions = solutions & table[preference]
        if solutions == 0 or solutions & elsewhere[outcome] > 0:
            return [0] + profile
    return [1]
