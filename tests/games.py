"""Whole instances, written plainly, and the calls that build them."""

from itertools import permutations, product

from tests import reference


def setup_of_domains(domains, alternative_count):
    calls = [("create", len(domains), alternative_count)]
    for agent, domain in enumerate(domains):
        calls += [("add_preference", agent, list(ranking)) for ranking in domain]
    return calls


def setup_of_target(target):
    return [("set_target_outcome", outcome, list(profile)) for profile, outcome in target.items()]


def setup_of_mechanism(counts, mechanism):
    calls = [("set_message_counts", list(counts))]
    # Every outcome is 0 then, and 400 calls are soon used up.
    calls += [("set_mechanism_outcome", outcome, list(messages)) for messages, outcome in mechanism.items() if outcome]
    return calls


class Game:
    """The target and the mechanism are dicts from tuples with one number for each agent to alternatives."""

    def __init__(self, domains, alternative_count, target, counts, mechanism):
        self.domains = domains
        self.alternative_count = alternative_count
        self.target = target
        self.counts = counts
        self.mechanism = mechanism

    def profiles(self):
        return reference.profiles_of(self.domains)

    def setup(self):
        calls = setup_of_domains(self.domains, self.alternative_count)
        calls += [call for call in setup_of_target(self.target) if call[1] > 0]
        return calls + setup_of_mechanism(self.counts, self.mechanism)

    def __repr__(self):
        return f"Game({self.domains}, {self.alternative_count}, {self.target}, {self.counts}, {self.mechanism})"


def random_mechanism(chance, kind, counts, alternative_count):
    """Some kinds have dominant messages, or many equal outcomes."""
    every = list(product(*[range(count) for count in counts]))
    leader = chance.randrange(len(counts))
    held = [chance.randrange(alternative_count) for message in range(counts[leader])]
    usual = chance.randrange(alternative_count)
    mechanism = {}
    for messages in every:
        mechanism[messages] = chance.randrange(alternative_count)
        if kind == "led":
            mechanism[messages] = held[messages[leader]]
        if kind == "flat" and chance.random() < 0.8:
            mechanism[messages] = usual
    return mechanism


def random_game(chance, most_choices=6):
    alternative_count = chance.choice((2, 3, 4))
    every = list(permutations(range(alternative_count)))
    agent_count = chance.randint(1, 3)
    most = min(most_choices, (6, 6, 4)[agent_count - 1])
    domains = [chance.sample(every, chance.randint(1, min(most, len(every)))) for agent in range(agent_count)]
    profiles = reference.profiles_of(domains)
    target = {profile: chance.randrange(alternative_count) for profile in profiles}
    kind = chance.choice(("any", "led", "flat", "direct"))
    counts = tuple(chance.randint(1, most) for agent in range(agent_count))
    if kind == "direct":
        dictator = chance.randrange(agent_count)
        target = {profile: domains[dictator][profile[dictator]][0] for profile in profiles}
        counts, mechanism = tuple(len(domain) for domain in domains), dict(target)
    else:
        mechanism = random_mechanism(chance, kind, counts, alternative_count)
    game = Game(domains, alternative_count, target, counts, mechanism)
    aim = chance.choice(("none", "nash", "dominant"))
    if kind != "direct" and aim != "none":
        aim_target(chance, game, aim)
    return game


def aim_target(chance, game, aim):
    """Turns the target, for most profiles, to where the mechanism leads."""
    for profile in game.profiles():
        found = reference.equilibria(game, profile)
        if aim == "dominant":
            found = reference.dominant_profiles(game, profile)
        if found and chance.random() < 0.97:
            game.target[profile] = game.mechanism[chance.choice(found)]


def small_games():
    """All games of two agents with two messages and two alternatives, and with their full domains."""
    domain = [(0, 1), (1, 0)]
    pairs = list(product(range(2), range(2)))
    for targets in product(range(2), repeat=4):
        for outcomes in product(range(2), repeat=4):
            yield Game([domain, domain], 2, dict(zip(pairs, targets)), (2, 2), dict(zip(pairs, outcomes)))
