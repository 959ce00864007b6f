"""Rules that tell the target outcome of a profile from its rankings."""


def dictatorship_outcome(rankings, agent):
    return rankings[agent][0]


def borda_outcome(rankings, alternative_count):
    scores = [0] * alternative_count
    for ranking in rankings:
        for place, alternative in enumerate(ranking):
            scores[alternative] += alternative_count - 1 - place
    # The first place of the highest score is the lowest number among the tied.
    return scores.index(max(scores))
