"""Nash equilibria of the mechanism, and the best-response steps that lead to them."""

from gameforms.choices import lines_of, positions_by_choice
from gameforms.masks import mask_of
from gameforms.rankings import places_on


# The positions of the message profiles in which the agent of these lines can't gain.
def resting_positions(lines, mechanism, ranking):
    resting = []
    for line in lines:
        places = places_on(line, mechanism, ranking)
        best = min(places)
        resting.extend([position for position, place in zip(line, places) if place == best])
    return mask_of(resting)


# One set of positions for each preference of the agent.
def resting_table(instance, agent):
    lines = lines_of(agent, instance.message_counts)
    return [resting_positions(lines, instance.mechanism, ranking) for ranking in instance.domains[agent]]


def equilibrium_positions(instance, profile):
    found = (1 << len(instance.mechanism)) - 1
    for agent, ranking in enumerate(instance.rankings_of(profile)):
        lines = lines_of(agent, instance.message_counts)
        found = found & resting_positions(lines, instance.mechanism, ranking)
    return found


def best_response_step(instance, rankings, messages):
    for agent, ranking in enumerate(rankings):
        line = positions_by_choice(messages, agent, instance.message_counts)
        places = places_on(line, instance.mechanism, ranking)
        best = min(places)
        if places[messages[agent]] > best:
            # The first place of the best is the lowest message among the tied.
            return messages[:agent] + [places.index(best)] + messages[agent + 1:]
    return None
