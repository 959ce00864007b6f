"""create, add_preference, set_full_domain and describe."""

import unittest
from itertools import permutations, product

from tests.requests import LARGEST, ask, ask_after, last

EACH_ALTERNATIVE_COUNT = (2, 3, 4)


class Create(unittest.TestCase):
    def test_every_allowed_size(self):
        for agents, alternatives in product((1, 2, 3), EACH_ALTERNATIVE_COUNT):
            self.assertEqual(ask([("create", agents, alternatives)]), [[0]])

    def test_sizes_out_of_range(self):
        wrong = [(0, 2), (4, 2), (LARGEST, 2), (1, 0), (1, 1), (1, 5), (3, LARGEST), (0, 0), (4, 5)]
        for agents, alternatives in wrong:
            self.assertEqual(ask([("create", agents, alternatives)]), [[-22]], (agents, alternatives))

    def test_agents_and_alternatives_are_as_passed(self):
        for agents, alternatives in product((1, 2, 3), EACH_ALTERNATIVE_COUNT):
            ranking = list(range(alternatives))
            setup = [("create", agents, alternatives)]
            for agent in range(agents):
                self.assertEqual(ask_after(setup, [("add_preference", agent, ranking)]), [[0]])
            self.assertEqual(ask_after(setup, [("add_preference", agents, ranking)]), [[-2]])

    def test_begins_with_one_message_each_and_outcome_0(self):
        for agents in (1, 2, 3):
            calls = [("create", agents, 2), ("mechanism_outcome", [0] * agents)]
            self.assertEqual(last(calls), [0])
            for agent in range(agents):
                messages = [0] * agents
                messages[agent] = 1
                self.assertEqual(last([("create", agents, 2), ("mechanism_outcome", messages)]), [-22])

    def test_begins_with_empty_domains(self):
        for agents in (1, 2, 3):
            for empty in range(agents):
                calls = [("create", agents, 2)]
                calls += [("set_full_domain", agent) for agent in range(agents) if agent != empty]
                self.assertEqual(last(calls + [("use_borda",)]), [-16])

    def test_a_second_create_replaces_all(self):
        calls = [
            ("create", 2, 3), ("set_full_domain", 0), ("set_full_domain", 1), ("use_borda",),
            ("set_message_counts", [2, 2]), ("set_mechanism_outcome", 2, [0, 0]),
            ("create", 2, 2),
            ("target_outcome", [0, 0]), ("mechanism_outcome", [0, 0]), ("mechanism_outcome", [0, 1]),
            ("add_preference", 0, [0, 1, 2]), ("add_preference", 0, [0, 1]), ("add_preference", 1, [1, 0]),
            ("target_outcome", [0, 0]),
        ]
        self.assertEqual(ask(calls)[6:], [[0], [-16], [0], [-22], [-22], [0], [0], [0]])

    def test_a_second_create_may_be_just_the_same(self):
        calls = [("create", 1, 2), ("set_full_domain", 0), ("create", 1, 2), ("target_outcome", [0])]
        self.assertEqual(ask(calls), [[0], [2], [0], [-16]])

    def test_a_second_create_may_change_the_number_of_agents(self):
        calls = [("create", 1, 2), ("create", 3, 2), ("mechanism_outcome", [0]), ("mechanism_outcome", [0, 0, 0])]
        self.assertEqual(ask(calls)[2:], [[-22], [0]])


class AddPreference(unittest.TestCase):
    def test_the_index_counts_for_each_agent_apart(self):
        calls = [
            ("add_preference", 1, [2, 0, 1]), ("add_preference", 1, [0, 1, 2]),
            ("add_preference", 0, [0, 1, 2]), ("add_preference", 1, [1, 2, 0]),
        ]
        self.assertEqual(ask_after([("create", 2, 3)], calls), [[0], [1], [0], [2]])

    def test_the_ranking_is_kept_in_its_order(self):
        setup = [("create", 1, 4), ("add_preference", 0, [3, 1, 0, 2]), ("add_preference", 0, [2, 0, 1, 3])]
        calls = [("use_dictatorship", 0), ("target_outcome", [0]), ("target_outcome", [1])]
        self.assertEqual(ask_after(setup, calls), [[0], [3], [2]])

    def test_agent_does_not_exist(self):
        for agents in (1, 2, 3):
            for agent in (agents, agents + 1, LARGEST):
                self.assertEqual(last([("create", agents, 2), ("add_preference", agent, [0, 1])]), [-2])

    def test_not_each_alternative_exactly_once(self):
        wrong = [
            [], [0], [0, 1], [0, 1, 1], [0, 0, 0], [1, 2, 3], [0, 1, LARGEST], [0, 1, 2, 3], [0, 1, 2, 2],
            [0, 1, 2, 0, 1, 2, 0, 1], [LARGEST] * 8,
        ]
        for ranking in wrong:
            self.assertEqual(last([("create", 2, 3), ("add_preference", 0, ranking)]), [-22], ranking)

    def test_preference_that_the_domain_contains(self):
        setup = [("create", 2, 3), ("add_preference", 0, [1, 0, 2]), ("add_preference", 0, [0, 1, 2])]
        calls = [("add_preference", 0, [1, 0, 2]), ("add_preference", 0, [0, 1, 2]), ("add_preference", 1, [1, 0, 2])]
        self.assertEqual(ask_after(setup, calls), [[-17], [-17], [0]])

    def test_preference_that_the_full_domain_contains(self):
        setup = [("create", 1, 3), ("set_full_domain", 0)]
        calls = [("add_preference", 0, list(ranking)) for ranking in permutations(range(3))]
        self.assertEqual(ask_after(setup, calls), [[-17]] * 6)

    def test_at_most_6_preferences(self):
        rankings = [list(ranking) for ranking in permutations(range(4))]
        calls = [("add_preference", 0, ranking) for ranking in rankings[:8]]
        self.assertEqual(ask_after([("create", 2, 4)], calls), [[0], [1], [2], [3], [4], [5], [-28], [-28]])

    def test_the_limit_is_each_agents_own(self):
        rankings = [list(ranking) for ranking in permutations(range(4))]
        setup = [("create", 2, 4)] + [("add_preference", 0, ranking) for ranking in rankings[:6]]
        self.assertEqual(ask_after(setup, [("add_preference", 1, rankings[6])]), [[0]])

    def test_order_of_errors(self):
        rankings = [list(ranking) for ranking in permutations(range(4))]
        setup = [("create", 1, 4)] + [("add_preference", 0, ranking) for ranking in rankings[:6]]
        calls = [
            ("add_preference", 1, [0, 0]), ("add_preference", 1, rankings[0]), ("add_preference", 1, rankings[6]),
            ("add_preference", 0, [0, 1, 2]), ("add_preference", 0, rankings[0]), ("add_preference", 0, rankings[6]),
        ]
        self.assertEqual(ask_after(setup, calls), [[-2], [-2], [-2], [-22], [-17], [-28]])

    def test_all_target_outcomes_become_0(self):
        setup = [
            ("create", 2, 2), ("set_full_domain", 0), ("add_preference", 1, [0, 1]),
            ("set_target_outcome", 1, [0, 0]), ("set_target_outcome", 1, [1, 0]),
            ("add_preference", 1, [1, 0]),
        ]
        calls = [("target_outcome", [one, two]) for one in range(2) for two in range(2)]
        self.assertEqual(ask_after(setup, calls), [[0]] * 4)

    def test_a_refused_one_leaves_the_target(self):
        setup = [("create", 1, 2), ("add_preference", 0, [1, 0]), ("set_target_outcome", 1, [0])]
        for bad in ([0, 0], [1, 0], [0]):
            calls = [("add_preference", 0, bad), ("target_outcome", [0]), ("target_outcome", [1])]
            self.assertEqual(ask_after(setup, calls)[1:], [[1], [-22]])

    def test_the_mechanism_stays(self):
        setup = [
            ("create", 1, 2), ("set_message_counts", [3]), ("set_mechanism_outcome", 1, [2]),
            ("add_preference", 0, [0, 1]), ("add_preference", 0, [1, 0]),
        ]
        calls = [("mechanism_outcome", [message]) for message in range(4)]
        self.assertEqual(ask_after(setup, calls), [[0], [0], [1], [-22]])


class SetFullDomain(unittest.TestCase):
    def test_the_number_of_preferences(self):
        self.assertEqual(ask([("create", 1, 2), ("set_full_domain", 0)]), [[0], [2]])
        self.assertEqual(ask([("create", 3, 3), ("set_full_domain", 2)]), [[0], [6]])

    def test_all_preferences_in_lexicographic_order(self):
        for alternatives in (2, 3):
            rankings = list(permutations(range(alternatives)))
            setup = [("create", 1, alternatives), ("set_full_domain", 0), ("use_dictatorship", 0)]
            calls = [("target_outcome", [index]) for index in range(len(rankings) + 1)]
            expected = [[ranking[0]] for ranking in rankings] + [[-22]]
            self.assertEqual(ask_after(setup, calls), expected)

    def test_whole_rankings_stand_in_lexicographic_order(self):
        # With two agents, a lone known ranking tells by Borda's rule what stands at each index.
        rankings = list(permutations(range(3)))
        setup = [("create", 2, 3), ("set_full_domain", 0), ("add_preference", 1, [2, 1, 0]), ("use_borda",)]
        calls = [("target_outcome", [index, 0]) for index in range(6)]
        expected = []
        for ranking in rankings:
            scores = [2 - ranking.index(x) + 2 - [2, 1, 0].index(x) for x in range(3)]
            expected.append([scores.index(max(scores))])
        self.assertEqual(ask_after(setup, calls), expected)

    def test_replaces_what_was_there(self):
        setup = [("create", 1, 3), ("add_preference", 0, [2, 1, 0]), ("add_preference", 0, [1, 0, 2])]
        calls = [("set_full_domain", 0), ("use_dictatorship", 0)]
        calls += [("target_outcome", [index]) for index in range(7)]
        self.assertEqual(ask_after(setup, calls), [[6], [0], [0], [0], [1], [1], [2], [2], [-22]])

    def test_twice_answers_the_same(self):
        calls = [("set_full_domain", 0), ("set_full_domain", 0), ("add_preference", 0, [1, 0])]
        self.assertEqual(ask_after([("create", 1, 2)], calls), [[2], [2], [-17]])

    def test_two_agents_domains_are_apart(self):
        setup = [("create", 2, 2), ("set_full_domain", 0), ("add_preference", 1, [1, 0])]
        calls = [("target_outcome", [1, 0]), ("target_outcome", [0, 1]), ("add_preference", 1, [0, 1])]
        self.assertEqual(ask_after(setup, calls), [[0], [-22], [1]])

    def test_all_target_outcomes_become_0(self):
        setup = [("create", 2, 2), ("set_full_domain", 0), ("set_full_domain", 1)]
        setup += [("set_target_outcome", 1, [one, two]) for one in range(2) for two in range(2)]
        calls = [("set_full_domain", 1)] + [("target_outcome", [one, two]) for one in range(2) for two in range(2)]
        self.assertEqual(ask_after(setup, calls), [[2]] + [[0]] * 4)

    def test_the_mechanism_stays(self):
        setup = [("create", 1, 2), ("set_message_counts", [3]), ("set_mechanism_outcome", 1, [2])]
        calls = [("set_full_domain", 0)] + [("mechanism_outcome", [message]) for message in range(4)]
        self.assertEqual(ask_after(setup, calls), [[2], [0], [0], [1], [-22]])

    def test_agent_does_not_exist(self):
        for agents in (1, 2, 3):
            for agent in (agents, LARGEST):
                self.assertEqual(last([("create", agents, 3), ("set_full_domain", agent)]), [-2])

    def test_four_alternatives(self):
        self.assertEqual(last([("create", 2, 4), ("set_full_domain", 1)]), [-28])

    def test_order_of_errors(self):
        self.assertEqual(last([("create", 2, 4), ("set_full_domain", 2)]), [-2])

    def test_refused_with_four_alternatives_leaves_domain_and_target(self):
        setup = [("create", 1, 4), ("add_preference", 0, [3, 2, 1, 0]), ("use_dictatorship", 0)]
        calls = [("set_full_domain", 0), ("target_outcome", [0]), ("target_outcome", [1])]
        self.assertEqual(ask_after(setup, calls), [[-28], [3], [-22]])


class Describe(unittest.TestCase):
    def test_every_size_before_any_preference(self):
        for agents, alternatives in product((1, 2, 3), EACH_ALTERNATIVE_COUNT):
            found = ask_after([("create", agents, alternatives)], [("describe",)])
            self.assertEqual(found, [[agents, alternatives] + [0] * agents])

    def test_the_sizes_of_the_domains(self):
        calls = [
            ("describe",), ("set_full_domain", 2), ("describe",), ("add_preference", 0, [1, 0, 2]), ("describe",),
            ("add_preference", 0, [2, 0, 1]), ("describe",), ("set_full_domain", 0), ("describe",),
        ]
        expected = [[3, 3, 0, 0, 0], [3, 3, 0, 0, 6], [3, 3, 1, 0, 6], [3, 3, 2, 0, 6], [3, 3, 6, 0, 6]]
        self.assertEqual(ask_after([("create", 3, 3)], calls)[::2], expected)

    def test_six_preferences(self):
        rankings = [list(ranking) for ranking in permutations(range(4))]
        setup = [("create", 2, 4)] + [("add_preference", 1, ranking) for ranking in rankings[:6]]
        self.assertEqual(ask_after(setup, [("describe",)]), [[2, 4, 0, 6]])

    def test_refused_preferences_are_not_counted(self):
        setup = [("create", 1, 2), ("add_preference", 0, [1, 0])]
        for bad in ([1, 0], [0, 0], []):
            self.assertEqual(ask_after(setup, [("add_preference", 0, bad), ("describe",)])[1], [1, 2, 1])

    def test_messages_do_not_count(self):
        setup = [("create", 2, 2), ("set_full_domain", 1), ("set_message_counts", [6, 5])]
        self.assertEqual(ask_after(setup, [("describe",)]), [[2, 2, 0, 2]])

    def test_the_instance_of_the_last_create(self):
        setup = [("create", 2, 3), ("set_full_domain", 0), ("create", 1, 4)]
        calls = [("describe",), ("create", 4, 4), ("describe",)]
        self.assertEqual(ask_after(setup, calls), [[1, 4, 0], [-22], [1, 4, 0]])


if __name__ == "__main__":
    unittest.main()
