"""The document's definitions, word by word, over dicts from profiles or message profiles to alternatives."""

from itertools import product


def profiles_of(domains):
    return list(product(*[range(len(domain)) for domain in domains]))


def prefers(ranking, one, other):
    return ranking.index(one) < ranking.index(other)


def borda(domains, profile, alternative_count):
    scores = {alternative: 0 for alternative in range(alternative_count)}
    for domain, preference in zip(domains, profile):
        for alternative in range(alternative_count):
            scores[alternative] += alternative_count - 1 - domain[preference].index(alternative)
    return min(scores, key=lambda alternative: (-scores[alternative], alternative))


def violates(domains, target, p, q, alternative_count):
    x = target[p]
    if target[q] == x:
        return False
    for domain, in_p, in_q in zip(domains, p, q):
        for alternative in range(alternative_count):
            if not prefers(domain[in_p], alternative, x) and prefers(domain[in_q], alternative, x):
                return False
    return True


def violation(domains, target, alternative_count):
    for p in profiles_of(domains):
        for q in profiles_of(domains):
            if violates(domains, target, p, q, alternative_count):
                return [1, *p, *q]
    return [0]


def manipulation(domains, target):
    for profile in profiles_of(domains):
        for agent, domain in enumerate(domains):
            for preference in range(len(domain)):
                report = profile[:agent] + (preference,) + profile[agent + 1:]
                if prefers(domain[profile[agent]], target[report], target[profile]):
                    return [agent, preference, *profile]
    return [-33]


def message_profiles_of(counts):
    return list(product(*[range(count) for count in counts]))


def changed(messages, agent, message):
    return messages[:agent] + (message,) + messages[agent + 1:]


def can_gain(game, profile, messages, agent):
    ranking = game.domains[agent][profile[agent]]
    others = [changed(messages, agent, message) for message in range(game.counts[agent])]
    return any(prefers(ranking, game.mechanism[other], game.mechanism[messages]) for other in others)


def is_equilibrium(game, profile, messages):
    return not any(can_gain(game, profile, messages, agent) for agent in range(len(game.counts)))


def equilibria(game, profile):
    return [messages for messages in message_profiles_of(game.counts) if is_equilibrium(game, profile, messages)]


def implements_in_nash(game):
    for profile in profiles_of(game.domains):
        found = equilibria(game, profile)
        if not found or any(game.mechanism[messages] != game.target[profile] for messages in found):
            return [0, *profile]
    return [1]


def step(game, profile, messages):
    for agent in range(len(game.counts)):
        if can_gain(game, profile, messages, agent):
            ranking = game.domains[agent][profile[agent]]
            best = None
            for message in range(game.counts[agent]):
                outcome = game.mechanism[changed(messages, agent, message)]
                if best is None or prefers(ranking, outcome, game.mechanism[changed(messages, agent, best)]):
                    best = message
            return changed(messages, agent, best)
    return None


def dynamics(game, profile, messages):
    step_count = 0
    while step_count < 100 and not is_equilibrium(game, profile, messages):
        messages = step(game, profile, messages)
        step_count += 1
    return [step_count, *messages] if is_equilibrium(game, profile, messages) else [-75]


def is_dominant(game, agent, preference, message):
    ranking = game.domains[agent][preference]
    for messages in message_profiles_of(game.counts):
        with_this = game.mechanism[changed(messages, agent, message)]
        if prefers(ranking, game.mechanism[messages], with_this):
            return False
    return True


def dominant(game, agent, preference):
    return [message for message in range(game.counts[agent]) if is_dominant(game, agent, preference, message)]


def dominates(game, agent, preference, better, worse):
    ranking = game.domains[agent][preference]
    gains = False
    for messages in message_profiles_of(game.counts):
        with_better = game.mechanism[changed(messages, agent, better)]
        with_worse = game.mechanism[changed(messages, agent, worse)]
        if prefers(ranking, with_worse, with_better):
            return False
        gains = gains or prefers(ranking, with_better, with_worse)
    return gains


def dominated(game, agent, preference):
    found = []
    for worse in range(game.counts[agent]):
        others = [message for message in range(game.counts[agent]) if message != worse]
        if any(dominates(game, agent, preference, better, worse) for better in others):
            found.append(worse)
    return found


def dominant_profiles(game, profile):
    return list(product(*[dominant(game, agent, preference) for agent, preference in enumerate(profile)]))


def implements_in_dominant_strategies(game):
    for profile in profiles_of(game.domains):
        found = dominant_profiles(game, profile)
        if not found or any(game.mechanism[messages] != game.target[profile] for messages in found):
            return [0, *profile]
    return [1]


def mask(members):
    return sum(2 ** member for member in set(members))


def is_in(member, of_mask):
    return of_mask // 2 ** member % 2 == 1


def agreeing(game, messages, agents):
    """The message profiles in which these agents send what they send in messages."""
    found = message_profiles_of(game.counts)
    return [other for other in found if all(other[agent] == messages[agent] for agent in agents)]


def can_force(game, coalition, alternatives):
    members = [agent for agent in range(len(game.counts)) if is_in(agent, coalition)]
    for messages in message_profiles_of(game.counts):
        if all(is_in(game.mechanism[other], alternatives) for other in agreeing(game, messages, members)):
            return 1
    return 0


def can_respond(game, coalition, alternatives):
    others = [agent for agent in range(len(game.counts)) if not is_in(agent, coalition)]
    for messages in message_profiles_of(game.counts):
        if not any(is_in(game.mechanism[other], alternatives) for other in agreeing(game, messages, others)):
            return 0
    return 1
