"""count_equilibria, equilibrium, equilibrium_outcomes, implements_in_nash and best_response_dynamics."""

import random
import unittest
from itertools import product

from tests import reference
from tests.games import Game, random_game, setup_of_domains, setup_of_mechanism, small_games
from tests.requests import LARGEST, ask_after

FULL = [(0, 1), (1, 0)]
TWO_BY_TWO = [("create", 2, 2), ("set_full_domain", 0), ("set_full_domain", 1)]

# Outcome 0 where both send the same message: a mechanism of matching messages.
MATCHING = TWO_BY_TWO + [
    ("set_message_counts", [2, 2]), ("set_mechanism_outcome", 1, [0, 1]), ("set_mechanism_outcome", 1, [1, 0]),
]

# The agents have 2 and 1 preferences, and 3 and 4 messages.
UNEVEN = setup_of_domains([[(0, 1, 2), (2, 1, 0)], [(1, 0, 2)]], 3) + [
    ("set_message_counts", [3, 4]), ("set_mechanism_outcome", 1, [2, 3]), ("set_mechanism_outcome", 2, [1, 1]),
]
NO_PROFILES = [
    [], [0], [0, 0, 0], [2, 0], [0, 1], [LARGEST, 0], [0, LARGEST], [0, 0, 0, 0], [0] * 8, [LARGEST] * 8,
]

# With these rankings, the steps from [0, 0, 0] are 105, and end at [2, 2, 4]. The
# outcomes stand in the order of the message profiles, each agent having 6 messages.
LONG_RANKINGS = [(1, 2, 3, 0), (2, 0, 1, 3), (0, 1, 3, 2)]
LONG_OUTCOMES = (
    "321022130312322230232301220120230202"
    "200130113302201012232331023022232203"
    "231333103032323313322032232131112230"
    "233113213332221321133320222001202200"
    "232311032200021130210203132220121023"
    "233311113132221312203321212301011231"
)


def one_preference_each(rankings, counts, outcomes):
    """A game with one profile, its outcomes in the order of the message profiles."""
    mechanism = dict(zip(reference.message_profiles_of(counts), outcomes))
    target = {(0,) * len(counts): 0}
    return Game([[ranking] for ranking in rankings], len(rankings[0]), target, counts, mechanism)


def long_game():
    return one_preference_each(LONG_RANKINGS, (6, 6, 6), [int(sign) for sign in LONG_OUTCOMES])


def three_by_three():
    """One agent with the message 0 for the alternative 2, 1 for 0 and 2 for 2 again."""
    return [("create", 1, 3), ("set_full_domain", 0), ("set_message_counts", [3])] + [
        ("set_mechanism_outcome", 2, [0]), ("set_mechanism_outcome", 2, [2]),
    ]


class CountEquilibria(unittest.TestCase):
    def test_both_agree(self):
        self.assertEqual(ask_after(MATCHING, [("count_equilibria", [0, 0])]), [[2]])
        self.assertEqual(ask_after(MATCHING, [("count_equilibria", [1, 1])]), [[2]])

    def test_a_profile_without_an_equilibrium(self):
        self.assertEqual(ask_after(MATCHING, [("count_equilibria", [0, 1])]), [[0]])
        self.assertEqual(ask_after(MATCHING, [("count_equilibria", [1, 0])]), [[0]])

    def test_one_agent(self):
        calls = [("count_equilibria", [preference]) for preference in range(6)]
        self.assertEqual(ask_after(three_by_three(), calls), [[1], [1], [1], [2], [2], [2]])

    def test_one_message_each(self):
        for agents in (1, 2, 3):
            setup = [("create", agents, 2)] + [("set_full_domain", agent) for agent in range(agents)]
            calls = [("count_equilibria", list(profile)) for profile in product(range(2), repeat=agents)]
            self.assertEqual(ask_after(setup, calls), [[1]] * len(calls))

    def test_every_message_profile_of_a_constant_mechanism(self):
        setup = [("create", 3, 2)] + [("set_full_domain", agent) for agent in range(3)]
        setup += [("set_message_counts", [6, 5, 4])]
        self.assertEqual(ask_after(setup, [("count_equilibria", [0, 1, 0])]), [[120]])

    def test_not_a_profile(self):
        for profile in NO_PROFILES:
            self.assertEqual(ask_after(UNEVEN, [("count_equilibria", profile)]), [[-22]], profile)


class Equilibrium(unittest.TestCase):
    def test_in_the_order_of_message_profiles(self):
        calls = [("equilibrium", index, [0, 0]) for index in range(3)]
        self.assertEqual(ask_after(MATCHING, calls), [[2, 0, 0], [2, 1, 1], [-33]])
        calls = [("equilibrium", index, [1, 1]) for index in range(3)]
        self.assertEqual(ask_after(MATCHING, calls), [[2, 0, 1], [2, 1, 0], [-33]])

    def test_the_first_agents_message_counts_most(self):
        setup = [("create", 3, 2)] + [("set_full_domain", agent) for agent in range(3)]
        setup += [("set_message_counts", [2, 3, 2])]
        every = [[3, *messages] for messages in product(range(2), range(3), range(2))]
        calls = [("equilibrium", index, [0, 0, 0]) for index in range(13)]
        self.assertEqual(ask_after(setup, calls), every + [[-33]])

    def test_one_agent(self):
        calls = [("equilibrium", index, [4]) for index in range(3)]
        self.assertEqual(ask_after(three_by_three(), calls), [[1, 0], [1, 2], [-33]])

    def test_none_at_this_position(self):
        for index in (0, 1, LARGEST):
            self.assertEqual(ask_after(MATCHING, [("equilibrium", index, [1, 0])]), [[-33]])
        for index in (2, 3, LARGEST):
            self.assertEqual(ask_after(MATCHING, [("equilibrium", index, [0, 0])]), [[-33]])

    def test_not_a_profile(self):
        for profile in NO_PROFILES:
            self.assertEqual(ask_after(UNEVEN, [("equilibrium", 0, profile)]), [[-22]], profile)

    def test_order_of_errors(self):
        for profile in NO_PROFILES:
            self.assertEqual(ask_after(UNEVEN, [("equilibrium", LARGEST, profile)]), [[-22]], profile)


class EquilibriumOutcomes(unittest.TestCase):
    def test_the_mask_of_the_outcomes(self):
        self.assertEqual(ask_after(MATCHING, [("equilibrium_outcomes", [0, 0])]), [[1]])
        self.assertEqual(ask_after(MATCHING, [("equilibrium_outcomes", [1, 1])]), [[2]])

    def test_two_equilibria_with_different_outcomes(self):
        # Whoever is alone with a message gets the worst, 2; both outcomes of the same messages hold.
        setup = setup_of_domains([[(0, 1, 2)], [(1, 0, 2)]], 3)
        mechanism = {(0, 0): 0, (0, 1): 2, (1, 0): 2, (1, 1): 1}
        setup += setup_of_mechanism((2, 2), mechanism)
        calls = [
            ("count_equilibria", [0, 0]), ("equilibrium_outcomes", [0, 0]),
            ("equilibrium", 0, [0, 0]), ("equilibrium", 1, [0, 0]),
        ]
        self.assertEqual(ask_after(setup, calls), [[2], [3], [2, 0, 0], [2, 1, 1]])

    def test_all_four_alternatives(self):
        game = one_preference_each([(0, 1, 2, 3)] * 3, (2, 2, 2), [3, 3, 3, 3, 3, 3, 3, 3])
        self.assertEqual(ask_after(game.setup(), [("equilibrium_outcomes", [0, 0, 0])]), [[8]])
        # No one agent alone leaves an outcome on the diagonal: 3 is all that it reaches from there.
        game = one_preference_each([(0, 1, 2, 3)] * 2, (4, 4), [0, 3, 3, 3, 3, 1, 3, 3, 3, 3, 2, 3, 3, 3, 3, 3])
        calls = [("equilibrium_outcomes", [0, 0]), ("count_equilibria", [0, 0])]
        self.assertEqual(ask_after(game.setup(), calls), [[15], [4]])

    def test_the_empty_set(self):
        self.assertEqual(ask_after(MATCHING, [("equilibrium_outcomes", [0, 1])]), [[0]])

    def test_one_agent_gets_its_best(self):
        calls = [("equilibrium_outcomes", [preference]) for preference in range(6)]
        # The alternative 1 is out of reach, so the preferences 2 and 3 get their second.
        self.assertEqual(ask_after(three_by_three(), calls), [[1], [1], [1], [4], [4], [4]])

    def test_one_message_each(self):
        setup = TWO_BY_TWO + [("set_mechanism_outcome", 1, [0, 0])]
        self.assertEqual(ask_after(setup, [("equilibrium_outcomes", [0, 0])]), [[2]])

    def test_not_a_profile(self):
        for profile in NO_PROFILES:
            self.assertEqual(ask_after(UNEVEN, [("equilibrium_outcomes", profile)]), [[-22]], profile)


class ImplementsInNash(unittest.TestCase):
    def asked(self, setup):
        return ask_after(setup, [("implements_in_nash",)])[0]

    def test_a_dictatorships_direct_mechanism_of_full_domains(self):
        for agent in range(2):
            setup = TWO_BY_TWO + [("use_dictatorship", agent), ("use_direct_mechanism",)]
            self.assertEqual(self.asked(setup), [1])

    def test_a_constant_target(self):
        self.assertEqual(self.asked(TWO_BY_TWO), [1])
        self.assertEqual(self.asked(TWO_BY_TWO + [("set_message_counts", [3, 2])]), [1])

    def test_one_agent(self):
        setup = [("create", 1, 2), ("set_full_domain", 0), ("use_dictatorship", 0), ("set_message_counts", [2])]
        self.assertEqual(self.asked(setup), [0, 1])
        self.assertEqual(self.asked(setup + [("set_mechanism_outcome", 1, [0])]), [1])

    def test_an_equilibrium_with_another_outcome(self):
        # The target of [1, 1] is 1, but once both report 0, neither alone changes the outcome 0.
        setup = TWO_BY_TWO + [("use_borda",), ("use_direct_mechanism",)]
        self.assertEqual(self.asked(setup), [0, 1, 1])
        self.assertEqual(ask_after(setup, [("equilibrium_outcomes", [1, 1])]), [[3]])

    def test_an_equilibrium_with_the_target_outcome_is_not_enough(self):
        setup = setup_of_domains([[(0, 1, 2)], [(1, 0, 2)]], 3)
        setup += setup_of_mechanism((2, 2), {(0, 0): 0, (0, 1): 2, (1, 0): 2, (1, 1): 1})
        for outcome in range(3):
            self.assertEqual(self.asked(setup + [("set_target_outcome", outcome, [0, 0])]), [0, 0, 0])

    def test_a_profile_without_an_equilibrium(self):
        self.assertEqual(self.asked(MATCHING), [0, 0, 1])

    def test_the_first_profile(self):
        # All profiles but those of set outcomes have the target outcome 0, as has the mechanism.
        for first, later in ([0, 0], [1, 1]), ([0, 1], [1, 0]), ([1, 0], [1, 1]):
            setup = TWO_BY_TWO + [("set_target_outcome", 1, later), ("set_target_outcome", 1, first)]
            self.assertEqual(self.asked(setup), [0, *first])

    def test_a_target_that_changes_after_use_direct_mechanism(self):
        setup = TWO_BY_TWO + [("use_dictatorship", 0), ("use_direct_mechanism",)]
        calls = [("implements_in_nash",), ("use_dictatorship", 1), ("implements_in_nash",), ("use_dictatorship", 0)]
        calls += [("implements_in_nash",), ("set_target_outcome", 0, [1, 1]), ("implements_in_nash",)]
        self.assertEqual(ask_after(setup, calls), [[1], [0], [0, 0, 1], [0], [1], [1], [0, 1, 1]])

    def test_every_small_game(self):
        implemented = 0
        for game in small_games():
            expected = reference.implements_in_nash(game)
            self.assertEqual(self.asked(game.setup()), expected, game)
            implemented += expected == [1]
        self.assertGreater(implemented, 5)


class BestResponseDynamics(unittest.TestCase):
    def test_no_step_from_an_equilibrium(self):
        calls = [("best_response_dynamics", [0, 0, 1, 1]), ("best_response_dynamics", [1, 1, 0, 1])]
        self.assertEqual(ask_after(MATCHING, calls), [[0, 1, 1], [0, 0, 1]])

    def test_the_first_agent_that_can_gain_moves(self):
        calls = [("best_response_dynamics", [0, 0, 0, 1]), ("best_response_dynamics", [0, 0, 1, 0])]
        self.assertEqual(ask_after(MATCHING, calls), [[1, 1, 1], [1, 0, 0]])

    def test_a_later_agent_moves_if_the_first_can_not_gain(self):
        # Agent 0 has one message, and agent 1 gets from 1 to 0.
        game = one_preference_each([(0, 1), (0, 1)], (1, 2), [1, 0])
        self.assertEqual(ask_after(game.setup(), [("best_response_dynamics", [0, 0, 0, 0])]), [[1, 0, 1]])

    def test_a_cycle(self):
        calls = [("best_response_dynamics", [*profile, *messages])
                 for profile in ((0, 1), (1, 0)) for messages in product(range(2), repeat=2)]
        self.assertEqual(ask_after(MATCHING, calls), [[-75]] * 8)

    def test_a_cycle_though_there_is_an_equilibrium(self):
        # Both match or don't match the messages 0 and 1; with 2 and 2, 0 and 1 are worse for both.
        outcomes = [0, 1, 3, 1, 0, 3, 3, 3, 2]
        game = one_preference_each([(0, 1, 2, 3), (1, 0, 2, 3)], (3, 3), outcomes)
        calls = [("best_response_dynamics", [0, 0, 0, 1]), ("best_response_dynamics", [0, 0, 2, 2])]
        calls += [("count_equilibria", [0, 0]), ("equilibrium", 0, [0, 0])]
        self.assertEqual(ask_after(game.setup(), calls), [[-75], [0, 2, 2], [1], [2, 2, 2]])

    def test_the_best_outcome_and_of_these_the_lowest_message(self):
        game = one_preference_each([(2, 0, 1)], (5,), [1, 0, 2, 1, 2])
        calls = [("best_response_dynamics", [0, message]) for message in range(5)]
        self.assertEqual(ask_after(game.setup(), calls), [[1, 2], [1, 2], [0, 2], [1, 2], [0, 4]])

    def test_several_steps_that_end(self):
        # Agent 0 moves to 1, then agent 1 to 2, then agent 0 to 2.
        outcomes = [3, 3, 3, 2, 2, 1, 3, 3, 0]
        game = one_preference_each([(0, 2, 1, 3), (0, 1, 2, 3)], (3, 3), outcomes)
        self.assertEqual(ask_after(game.setup(), [("best_response_dynamics", [0, 0, 0, 0])]), [[3, 2, 2]])

    def test_one_agent(self):
        calls = [("best_response_dynamics", [preference, 1]) for preference in range(6)]
        self.assertEqual(ask_after(three_by_three(), calls), [[0, 1], [0, 1], [0, 1], [1, 0], [1, 0], [1, 0]])

    def test_one_message_each(self):
        setup = [("create", 3, 2)] + [("set_full_domain", agent) for agent in range(3)]
        self.assertEqual(ask_after(setup, [("best_response_dynamics", [0, 1, 0, 0, 0, 0])]), [[0, 0, 0, 0]])

    def test_an_end_after_100_steps_and_none(self):
        game = long_game()
        found = []
        messages = (0, 0, 0)
        while messages is not None:
            found.append(messages)
            messages = reference.step(game, (0, 0, 0), messages)
        self.assertEqual(len(found), 106)
        # Found so late in the list, a message profile has few steps ahead of it.
        calls = [("best_response_dynamics", [0, 0, 0, *messages]) for messages in found]
        expected = [[105 - place, 2, 2, 4] if place >= 5 else [-75] for place in range(106)]
        self.assertEqual(expected[5], [100, 2, 2, 4])
        self.assertEqual(ask_after(game.setup(), calls), expected)

    def test_not_a_profile_or_not_a_message_profile(self):
        wrong = [[], [0], [0, 0], [0, 0, 0], [0, 0, 0, 0, 0], [0, 0, 0, 0, 0, 0], [0] * 8, [LARGEST] * 8]
        wrong += [[2, 0, 0, 0], [0, 1, 0, 0], [LARGEST, 0, 0, 0], [0, LARGEST, 0, 0]]
        wrong += [[0, 0, 3, 0], [0, 0, 0, 4], [0, 0, LARGEST, 0], [0, 0, 0, LARGEST], [2, 1, 3, 4]]
        for both in wrong:
            self.assertEqual(ask_after(UNEVEN, [("best_response_dynamics", both)]), [[-22]], both)
        # Within the bounds of a message profile and of a profile alone.
        self.assertEqual(ask_after(UNEVEN, [("best_response_dynamics", [1, 0, 2, 3])])[0][0], 0)
        self.assertEqual(ask_after(UNEVEN, [("best_response_dynamics", [2, 3, 1, 0])]), [[-22]])

    def test_a_list_of_the_length_of_another_number_of_agents(self):
        for agents in (1, 2, 3):
            setup = [("create", agents, 2)] + [("set_full_domain", agent) for agent in range(agents)]
            for length in range(9):
                found = ask_after(setup, [("best_response_dynamics", [0] * length)])
                self.assertEqual(found, [[0] * (agents + 1)] if length == 2 * agents else [[-22]])

    def test_wrong_ahead_of_endless(self):
        for both in ([0, 1, 0], [0, 1, 0, 2], [0, 2, 0, 0], [0, 1, 0, 0, 0]):
            self.assertEqual(ask_after(MATCHING, [("best_response_dynamics", both)]), [[-22]])


class LikeTheDefinitions(unittest.TestCase):
    def test_every_profile_of_many_games(self):
        chance = random.Random(14)
        counts_seen, outcomes_seen = set(), set()
        for turn in range(250):
            game = random_game(chance, 5)
            calls, expected = [], []
            for profile in chance.sample(game.profiles(), min(12, len(game.profiles()))):
                found = reference.equilibria(game, profile)
                outcomes = reference.mask(game.mechanism[messages] for messages in found)
                index = chance.randint(0, len(found))
                calls += [("count_equilibria", list(profile)), ("equilibrium_outcomes", list(profile))]
                calls += [("equilibrium", index, list(profile))]
                expected += [[len(found)], [outcomes]]
                expected += [[len(game.counts), *found[index]] if index < len(found) else [-33]]
                counts_seen.add(len(found))
                outcomes_seen.add(outcomes)
            self.assertEqual(ask_after(game.setup(), calls), expected, game)
        self.assertTrue({0, 1, 2, 3, 4, 5, 6} <= counts_seen)
        self.assertTrue({0, 1, 2, 3, 4, 5, 6, 8} <= outcomes_seen)

    def test_every_equilibrium_of_many_games(self):
        chance = random.Random(15)
        for turn in range(60):
            game = random_game(chance)
            profile = chance.choice(game.profiles())
            found = reference.equilibria(game, profile)
            calls = [("equilibrium", index, list(profile)) for index in range(len(found) + 1)]
            expected = [[len(game.counts), *messages] for messages in found] + [[-33]]
            self.assertEqual(ask_after(game.setup(), calls), expected, game)

    def test_implementation_by_many_games(self):
        chance = random.Random(17)
        seen = []
        for turn in range(400):
            game = random_game(chance, 4)
            expected = reference.implements_in_nash(game)
            self.assertEqual(ask_after(game.setup(), [("implements_in_nash",)]), [expected], game)
            seen.append(expected)
        self.assertGreater(seen.count([1]), 50)
        # Profiles other than the first one.
        self.assertGreater(len([answer for answer in seen if any(answer[1:])]), 25)

    def test_dynamics_of_many_games(self):
        chance = random.Random(18)
        lengths = []
        for turn in range(250):
            game = random_game(chance)
            calls, expected = [], []
            for start in range(12):
                profile = chance.choice(game.profiles())
                messages = chance.choice(list(game.mechanism))
                calls.append(("best_response_dynamics", [*profile, *messages]))
                expected.append(reference.dynamics(game, profile, messages))
                lengths.append(expected[-1][0])
            self.assertEqual(ask_after(game.setup(), calls), expected, game)
        self.assertGreater(lengths.count(-75), 20)
        for length in range(5):
            self.assertGreater(lengths.count(length), 3, length)


if __name__ == "__main__":
    unittest.main()
