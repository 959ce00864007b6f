"""The document's definitions, word by word, over dicts from profiles to alternatives."""

from itertools import product


def profiles_of(domains):
    return list(product(*[range(len(domain)) for domain in domains]))


def prefers(ranking, one, other):
    return ranking.index(one) < ranking.index(other)


def borda(domains, profile, alternative_count):
    scores = {alternative: 0 for alternative in range(alternative_count)}
    for domain, preference in zip(domains, profile):
        for alternative in range(alternative_count):
            scores[alternative] += alternative_count - 1 - domain[preference].index(alternative)
    return min(scores, key=lambda alternative: (-scores[alternative], alternative))


def violates(domains, target, p, q, alternative_count):
    x = target[p]
    if target[q] == x:
        return False
    for domain, in_p, in_q in zip(domains, p, q):
        for alternative in range(alternative_count):
            if not prefers(domain[in_p], alternative, x) and prefers(domain[in_q], alternative, x):
                return False
    return True


def violation(domains, target, alternative_count):
    for p in profiles_of(domains):
        for q in profiles_of(domains):
            if violates(domains, target, p, q, alternative_count):
                return [1, *p, *q]
    return [0]


def manipulation(domains, target):
    for profile in profiles_of(domains):
        for agent, domain in enumerate(domains):
            for preference in range(len(domain)):
                report = profile[:agent] + (preference,) + profile[agent + 1:]
                if prefers(domain[profile[agent]], target[report], target[profile]):
                    return [agent, preference, *profile]
    return [-33]
