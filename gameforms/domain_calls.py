"""The calls that change a domain: 1 and 2."""

from gameforms.codes import CONTAINED_ALREADY, INVALID, LIMIT_REACHED, UNKNOWN
from gameforms.rankings import all_rankings, is_ranking

DOMAIN_LIMIT = 6
MOST_FULL_ALTERNATIVES = 3


def answer_domain_call(instance, number, arguments):
    if number == 1:
        return add_preference(instance, arguments[0], arguments[1])
    return set_full_domain(instance, arguments[0])


def add_preference(instance, agent, ranking):
    if agent >= instance.agent_count:
        return [UNKNOWN]
    if not is_ranking(ranking, instance.alternative_count):
        return [INVALID]
    domain = instance.domains[agent]
    if ranking in domain:
        return [CONTAINED_ALREADY]
    if len(domain) >= DOMAIN_LIMIT:
        return [LIMIT_REACHED]
    domain.append(ranking)
    instance.clear_target()
    return [len(domain) - 1]


def set_full_domain(instance, agent):
    if agent >= instance.agent_count:
        return [UNKNOWN]
    if instance.alternative_count > MOST_FULL_ALTERNATIVES:
        return [LIMIT_REACHED]
    instance.domains[agent] = all_rankings(instance.alternative_count)
    instance.clear_target()
    return [len(instance.domains[agent])]
