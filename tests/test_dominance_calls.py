"""dominant_messages, dominated_messages and implements_in_dominant_strategies."""

import random
import unittest
from itertools import permutations, product

from tests import reference
from tests.games import Game, random_game, setup_of_domains, setup_of_mechanism, small_games
from tests.requests import LARGEST, ask_after

TWO_BY_TWO = [("create", 2, 2), ("set_full_domain", 0), ("set_full_domain", 1)]
MATCHING = TWO_BY_TWO + setup_of_mechanism((2, 2), {(0, 0): 0, (0, 1): 1, (1, 0): 1, (1, 1): 0})
PREFERENCE_CALLS = ("dominant_messages", "dominated_messages")


class DominantMessages(unittest.TestCase):
    def test_bordas_direct_mechanism_of_two_alternatives(self):
        setup = TWO_BY_TWO + [("use_borda",), ("use_direct_mechanism",)]
        calls = [("dominant_messages", agent, preference) for agent in range(2) for preference in range(2)]
        self.assertEqual(ask_after(setup, calls), [[1], [2], [1], [2]])

    def test_none(self):
        calls = [("dominant_messages", agent, preference) for agent in range(2) for preference in range(2)]
        self.assertEqual(ask_after(MATCHING, calls), [[0]] * 4)

    def test_best_for_all_messages_of_the_others(self):
        # By 0 1 2, the message 2 is best against 0 and 1, but not against 2, where only 1 is.
        rows = {0: [0, 0, 2], 1: [1, 0, 0], 2: [0, 0, 1], 3: [0, 0, 0]}
        mechanism = {(own, other): rows[own][other] for own in range(4) for other in range(3)}
        setup = setup_of_domains([[(0, 1, 2), (2, 1, 0), (1, 2, 0)], [(0, 1, 2)]], 3)
        setup += setup_of_mechanism((4, 3), mechanism)
        calls = [("dominant_messages", 0, preference) for preference in range(3)]
        self.assertEqual(ask_after(setup, calls), [[8], [0], [0]])

    def test_all_messages_where_the_agent_changes_nothing(self):
        setup = TWO_BY_TWO + [("set_message_counts", [6, 2]), ("set_mechanism_outcome", 1, [0, 1])]
        setup += [("set_mechanism_outcome", 1, [message, 1]) for message in range(1, 6)]
        self.assertEqual(ask_after(setup, [("dominant_messages", 0, 0), ("dominant_messages", 0, 1)]), [[63], [63]])
        self.assertEqual(ask_after(setup, [("dominant_messages", 1, 0), ("dominant_messages", 1, 1)]), [[1], [2]])

    def test_one_agent_has_its_best_outcomes(self):
        setup = setup_of_domains([[(2, 0, 1), (1, 2, 0)]], 3)
        setup += setup_of_mechanism((4,), {(0,): 2, (1,): 0, (2,): 2, (3,): 0})
        self.assertEqual(ask_after(setup, [("dominant_messages", 0, 0), ("dominant_messages", 0, 1)]), [[5], [5]])

    def test_one_message_each(self):
        for agents in (1, 2, 3):
            setup = [("create", agents, 2)] + [("set_full_domain", agent) for agent in range(agents)]
            calls = [(name, agent, 1) for agent in range(agents) for name in PREFERENCE_CALLS]
            self.assertEqual(ask_after(setup, calls), [[1], [0]] * agents)


class DominatedMessages(unittest.TestCase):
    def test_bordas_direct_mechanism_of_two_alternatives(self):
        setup = TWO_BY_TWO + [("use_borda",), ("use_direct_mechanism",)]
        calls = [("dominated_messages", agent, preference) for agent in range(2) for preference in range(2)]
        self.assertEqual(ask_after(setup, calls), [[2], [1], [2], [1]])

    def test_none(self):
        calls = [("dominated_messages", agent, preference) for agent in range(2) for preference in range(2)]
        self.assertEqual(ask_after(MATCHING, calls), [[0]] * 4)

    def test_equal_messages_do_not_dominate_one_another(self):
        setup = TWO_BY_TWO + [("set_message_counts", [6, 6])]
        self.assertEqual(ask_after(setup, [("dominated_messages", 0, 0), ("dominated_messages", 1, 1)]), [[0], [0]])

    def test_dominated_by_a_message_that_is_not_dominant(self):
        # By 0 1 2 3: the message 1 is never better than 0, and once worse; 2 is better than 0 once.
        rows = {0: [0, 1], 1: [0, 2], 2: [3, 0]}
        mechanism = {(own, other): rows[own][other] for own in range(3) for other in range(2)}
        setup = setup_of_domains([[(0, 1, 2, 3)], [(0, 1, 2, 3)]], 4) + setup_of_mechanism((3, 2), mechanism)
        self.assertEqual(ask_after(setup, [("dominated_messages", 0, 0), ("dominant_messages", 0, 0)]), [[2], [0]])

    def test_all_but_one(self):
        setup = [("create", 1, 2), ("set_full_domain", 0)] + setup_of_mechanism((6,), {(3,): 1})
        calls = [("dominated_messages", 0, 0), ("dominated_messages", 0, 1)]
        self.assertEqual(ask_after(setup, calls), [[8], [63 - 8]])

    def test_neither_dominant_nor_dominated(self):
        # No message is best everywhere, and each is best somewhere.
        rows = {0: [0, 1, 1], 1: [1, 0, 1], 2: [1, 1, 0]}
        mechanism = {(one, own): rows[own][one] for own in range(3) for one in range(3)}
        setup = TWO_BY_TWO + setup_of_mechanism((3, 3), mechanism)
        self.assertEqual(ask_after(setup, [("dominated_messages", 1, 0), ("dominant_messages", 1, 0)]), [[0], [0]])


class OnePreferenceOfOneAgent(unittest.TestCase):
    def test_agent_does_not_exist(self):
        for name, agents in product(PREFERENCE_CALLS, (1, 2, 3)):
            setup = [("create", agents, 2)] + [("set_full_domain", agent) for agent in range(agents)]
            for agent, preference in product((agents, agents + 1, LARGEST), (0, 2, LARGEST)):
                self.assertEqual(ask_after(setup, [(name, agent, preference)]), [[-2]])

    def test_the_domain_has_no_such_preference(self):
        setup = [("create", 2, 3), ("set_full_domain", 0), ("add_preference", 1, [2, 1, 0])]
        for name in PREFERENCE_CALLS:
            for agent, size in ((0, 6), (1, 1)):
                calls = [(name, agent, preference) for preference in range(size)]
                self.assertNotIn([-2], ask_after(setup, calls))
                calls = [(name, agent, preference) for preference in (size, size + 1, LARGEST)]
                self.assertEqual(ask_after(setup, calls), [[-2]] * 3)

    def test_ahead_of_any_preference(self):
        for name in PREFERENCE_CALLS:
            calls = [(name, agent, preference) for agent in range(3) for preference in (0, 1)]
            self.assertEqual(ask_after([("create", 2, 2)], calls), [[-2]] * 6)

    def test_while_another_agents_domain_is_empty(self):
        setup = [("create", 2, 2), ("set_full_domain", 1)]
        setup += setup_of_mechanism((2, 2), {(0, 1): 1, (1, 1): 1})
        calls = [(name, 1, preference) for name in PREFERENCE_CALLS for preference in range(2)]
        self.assertEqual(ask_after(setup, calls), [[1], [2], [2], [1]])
        self.assertEqual(ask_after(setup, [(name, 0, 0) for name in PREFERENCE_CALLS]), [[-2], [-2]])

    def test_both_by_the_agents_own_preference(self):
        # The domains are unlike, and so are the preferences of the same index.
        setup = setup_of_domains([[(0, 1, 2)], [(2, 1, 0)]], 3)
        setup += setup_of_mechanism((2, 2), {(0, 0): 0, (0, 1): 2, (1, 0): 0, (1, 1): 2})
        calls = [(name, agent, 0) for agent in range(2) for name in PREFERENCE_CALLS]
        self.assertEqual(ask_after(setup, calls), [[3], [0], [2], [1]])


class ImplementsInDominantStrategies(unittest.TestCase):
    def asked(self, setup):
        return ask_after(setup, [("implements_in_dominant_strategies",)])[0]

    def test_direct_mechanisms_without_manipulation(self):
        full = [("create", 2, 3), ("set_full_domain", 0), ("set_full_domain", 1)]
        self.assertEqual(self.asked(full + [("use_direct_mechanism",)]), [1])
        self.assertEqual(self.asked(TWO_BY_TWO + [("use_borda",), ("use_direct_mechanism",)]), [1])
        for agent in range(2):
            setup = full + [("use_dictatorship", agent), ("use_direct_mechanism",)]
            self.assertEqual(self.asked(setup), [1])

    def test_an_agent_without_a_dominant_message(self):
        self.assertEqual(self.asked(MATCHING), [0, 0, 0])

    def test_an_agent_without_one_for_its_second_preference_alone(self):
        # By 1 2 0, the message 1 is best against 0, and 2 against 1.
        mechanism = {(0, 0): 0, (0, 1): 0, (1, 0): 1, (1, 1): 0, (2, 0): 2, (2, 1): 2}
        setup = setup_of_domains([[(0, 1, 2), (1, 2, 0), (0, 2, 1)], [(0, 1, 2)]], 3)
        setup += setup_of_mechanism((3, 2), mechanism)
        calls = [("dominant_messages", 0, preference) for preference in range(3)] + [("dominant_messages", 1, 0)]
        self.assertEqual(ask_after(setup, calls), [[1], [0], [1], [2]])
        for outcome in range(3):
            self.assertEqual(self.asked(setup + [("set_target_outcome", outcome, [1, 0])]), [0, 1, 0])
        # With the outcome 1 also against 1, the message 1 is dominant.
        setup += [("set_mechanism_outcome", 1, [1, 1])]
        calls = [("implements_in_dominant_strategies",), ("set_target_outcome", 1, [1, 0])]
        self.assertEqual(ask_after(setup, calls + calls[:1]), [[0, 1, 0], [0], [1]])

    def test_dominant_messages_that_lead_elsewhere(self):
        setup = TWO_BY_TWO + [("use_dictatorship", 0), ("use_direct_mechanism",), ("use_dictatorship", 1)]
        self.assertEqual(self.asked(setup), [0, 0, 1])

    def test_several_dominant_messages(self):
        setup = setup_of_domains([[(0, 1, 2)], [(0, 1, 2), (2, 1, 0)]], 3)
        setup += setup_of_mechanism((1, 4), {(0, 0): 0, (0, 1): 2, (0, 2): 0, (0, 3): 2})
        self.assertEqual(ask_after(setup, [("dominant_messages", 1, 0), ("dominant_messages", 1, 1)]), [[5], [10]])
        self.assertEqual(self.asked(setup), [0, 0, 1])
        self.assertEqual(self.asked(setup + [("set_target_outcome", 2, [0, 1])]), [1])

    def test_the_message_profile_of_dominant_messages_alone_counts(self):
        # At [1, 1] agent 0 sends 0 and agent 1 sends 1; elsewhere the dominant messages lead to 0.
        setup = TWO_BY_TWO + setup_of_mechanism((2, 2), {(0, 1): 1})
        self.assertEqual(ask_after(setup, [("dominant_messages", 0, 1), ("dominant_messages", 1, 1)]), [[1], [2]])
        self.assertEqual(self.asked(setup), [0, 1, 1])
        self.assertEqual(self.asked(setup + [("set_target_outcome", 1, [1, 1])]), [1])

    def test_one_message_each(self):
        for agents in (1, 2, 3):
            setup = [("create", agents, 2)] + [("set_full_domain", agent) for agent in range(agents)]
            self.assertEqual(self.asked(setup), [1])
            setup += [("set_target_outcome", 1, [1] * agents)]
            self.assertEqual(self.asked(setup), [0] + [1] * agents)

    def test_one_agent(self):
        setup = [("create", 1, 3), ("set_full_domain", 0), ("use_borda",), ("use_direct_mechanism",)]
        self.assertEqual(self.asked(setup), [1])
        self.assertEqual(self.asked(setup + [("set_target_outcome", 2, [3])]), [0, 3])

    def test_a_target_that_changes_after_use_direct_mechanism(self):
        setup = TWO_BY_TWO + [("use_borda",), ("use_direct_mechanism",)]
        calls = [("implements_in_dominant_strategies",), ("set_target_outcome", 1, [1, 0])] * 2
        calls += [("use_direct_mechanism",), ("implements_in_dominant_strategies",)]
        self.assertEqual(ask_after(setup, calls), [[1], [0], [0, 1, 0], [1], [4], [1]])

    def test_every_small_game(self):
        implemented = 0
        for game in small_games():
            expected = reference.implements_in_dominant_strategies(game)
            self.assertEqual(self.asked(game.setup()), expected, game)
            implemented += expected == [1]
        self.assertGreater(implemented, 5)


class LikeTheDefinitions(unittest.TestCase):
    def test_messages_of_many_games(self):
        chance = random.Random(19)
        seen = {name: set() for name in PREFERENCE_CALLS}
        for turn in range(250):
            game = random_game(chance)
            calls, expected = [], []
            for agent, domain in enumerate(game.domains):
                for preference in range(len(domain)):
                    calls += [(name, agent, preference) for name in PREFERENCE_CALLS]
                    expected.append([reference.mask(reference.dominant(game, agent, preference))])
                    expected.append([reference.mask(reference.dominated(game, agent, preference))])
            self.assertEqual(ask_after(game.setup(), calls), expected, game)
            for call, answer in zip(calls, expected):
                seen[call[0]].add(answer[0])
        for name in PREFERENCE_CALLS:
            self.assertGreater(len(seen[name]), 20, name)
            self.assertTrue({0, 1, 2, 4, 8, 16, 32} <= seen[name], name)

    def test_implementation_by_many_games(self):
        chance = random.Random(21)
        seen = []
        for turn in range(400):
            game = random_game(chance, 4)
            expected = reference.implements_in_dominant_strategies(game)
            self.assertEqual(ask_after(game.setup(), [("implements_in_dominant_strategies",)]), [expected], game)
            seen.append(expected)
        self.assertGreater(seen.count([1]), 50)
        # Profiles other than the first one.
        self.assertGreater(len([answer for answer in seen if any(answer[1:])]), 25)

    def test_every_target_of_one_agent_in_its_direct_mechanism(self):
        domain = list(permutations(range(3)))[1::2]
        for outcomes in product(range(3), repeat=3):
            target = {(preference,): outcome for preference, outcome in enumerate(outcomes)}
            game = Game([domain], 3, target, (3,), target)
            calls = [("implements_in_dominant_strategies",), ("dominant_messages", 0, 1)]
            expected = [reference.implements_in_dominant_strategies(game)]
            expected.append([reference.mask(reference.dominant(game, 0, 1))])
            self.assertEqual(ask_after(game.setup(), calls), expected)


if __name__ == "__main__":
    unittest.main()
