"""Rankings of all alternatives, the best one first."""


def is_ranking(ranking, alternative_count):
    return sorted(ranking) == list(range(alternative_count))


def all_rankings(alternative_count):
    rankings = [[]]
    while len(rankings[0]) < alternative_count:
        longer = []
        for ranking in rankings:
            for alternative in range(alternative_count):
                if alternative not in ranking:
                    longer.append(ranking + [alternative])
        rankings = longer
    return rankings


def preferred_to(ranking, alternative):
    return ranking[:ranking.index(alternative)]


# How far down the ranking the outcome of each position stands: the lower, the better.
def places_on(positions, table, ranking):
    return [ranking.index(table[position]) for position in positions]
