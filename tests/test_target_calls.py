"""set_target_outcome, use_dictatorship, use_borda and target_outcome."""

import random
import unittest
from itertools import permutations, product

from tests import reference
from tests.games import setup_of_domains
from tests.requests import LARGEST, ask_after, last

TWO_BY_TWO = [("create", 2, 2), ("set_full_domain", 0), ("set_full_domain", 1)]
UNEVEN = [("create", 2, 3), ("set_full_domain", 0), ("add_preference", 1, [2, 1, 0]), ("add_preference", 1, [1, 0, 2])]

# No profile of UNEVEN, in which the agents have 6 and 2 preferences.
NO_PROFILES = [
    [], [0], [0, 0, 0], [6, 0], [0, 2], [LARGEST, 0], [0, LARGEST], [5, 1, 0], [0] * 8, [LARGEST] * 8,
]


class SetTargetOutcome(unittest.TestCase):
    def test_answers_the_previous_outcome(self):
        calls = [
            ("set_target_outcome", 1, [0, 1]), ("set_target_outcome", 0, [0, 1]), ("set_target_outcome", 1, [0, 1]),
            ("set_target_outcome", 1, [0, 1]), ("target_outcome", [0, 1]),
        ]
        self.assertEqual(ask_after(TWO_BY_TWO, calls), [[0], [1], [0], [1], [1]])

    def test_sets_this_profile_alone(self):
        profiles = [list(profile) for profile in product(range(6), range(2))]
        for profile in profiles:
            setup = UNEVEN + [("set_target_outcome", 2, profile)]
            found = ask_after(setup, [("target_outcome", other) for other in profiles])
            self.assertEqual(found, [[2 if other == profile else 0] for other in profiles])

    def test_three_agents_of_uneven_domains(self):
        setup = [
            ("create", 3, 3), ("set_full_domain", 0), ("add_preference", 1, [2, 1, 0]),
            ("add_preference", 2, [0, 1, 2]), ("add_preference", 2, [0, 2, 1]), ("add_preference", 2, [1, 0, 2]),
        ]
        profiles = [list(profile) for profile in product(range(6), range(1), range(3))]
        sets = [("set_target_outcome", place % 3, profile) for place, profile in enumerate(profiles)]
        reads = [("target_outcome", profile) for profile in profiles]
        found = ask_after(setup, sets + reads)
        self.assertEqual(found, [[0]] * 18 + [[place % 3] for place in range(18)])

    def test_alternative_does_not_exist(self):
        for alternative in (2, 3, LARGEST):
            self.assertEqual(ask_after(TWO_BY_TWO, [("set_target_outcome", alternative, [0, 0])]), [[-22]])
        self.assertEqual(ask_after(UNEVEN, [("set_target_outcome", 3, [0, 0])]), [[-22]])

    def test_not_a_profile(self):
        for profile in NO_PROFILES:
            self.assertEqual(ask_after(UNEVEN, [("set_target_outcome", 1, profile)]), [[-22]], profile)

    def test_both_wrong(self):
        self.assertEqual(ask_after(UNEVEN, [("set_target_outcome", 3, [6, 0])]), [[-22]])

    def test_refused_leaves_the_target(self):
        reads = [("target_outcome", [one, two]) for one in range(2) for two in range(2)]
        setup = TWO_BY_TWO + [("set_target_outcome", 1, [1, 0])]
        for call in (("set_target_outcome", 2, [0, 0]), ("set_target_outcome", 1, [0, 2])):
            self.assertEqual(ask_after(setup, [call] + reads), [[-22], [0], [0], [1], [0]])


class UseDictatorship(unittest.TestCase):
    def test_the_best_of_the_agents_preference(self):
        for agent in range(2):
            tops = ([0, 0, 1, 1, 2, 2], [2, 1])
            profiles = [list(profile) for profile in product(range(6), range(2))]
            calls = [("use_dictatorship", agent)] + [("target_outcome", profile) for profile in profiles]
            expected = [[0]] + [[tops[agent][profile[agent]]] for profile in profiles]
            self.assertEqual(ask_after(UNEVEN, calls), expected)

    def test_one_agent(self):
        setup = [("create", 1, 4), ("add_preference", 0, [3, 0, 1, 2]), ("add_preference", 0, [1, 0, 3, 2])]
        calls = [("use_dictatorship", 0), ("target_outcome", [0]), ("target_outcome", [1])]
        self.assertEqual(ask_after(setup, calls), [[0], [3], [1]])

    def test_replaces_every_outcome(self):
        setup = TWO_BY_TWO + [("set_target_outcome", 1, [0, 0]), ("use_dictatorship", 0), ("use_dictatorship", 1)]
        calls = [("target_outcome", [one, two]) for one in range(2) for two in range(2)]
        self.assertEqual(ask_after(setup, calls), [[0], [1], [0], [1]])

    def test_agent_does_not_exist(self):
        for agent in (2, 3, LARGEST):
            self.assertEqual(ask_after(TWO_BY_TWO, [("use_dictatorship", agent)]), [[-2]])

    def test_refused_leaves_the_target(self):
        setup = TWO_BY_TWO + [("use_dictatorship", 1)]
        calls = [("use_dictatorship", 2)] + [("target_outcome", [one, two]) for one in range(2) for two in range(2)]
        self.assertEqual(ask_after(setup, calls), [[-2], [0], [1], [0], [1]])


class UseBorda(unittest.TestCase):
    def test_two_alternatives_ties_go_to_0(self):
        calls = [("use_borda",)] + [("target_outcome", [one, two]) for one in range(2) for two in range(2)]
        self.assertEqual(ask_after(TWO_BY_TWO, calls), [[0], [0], [0], [0], [1]])

    def test_a_compromise_wins(self):
        # 0 and 3 are each the best of one agent; 2 has the points 2 + 2 + 2.
        setup = setup_of_domains([[(0, 2, 1, 3)], [(3, 2, 1, 0)], [(1, 2, 3, 0)]], 4)
        self.assertEqual(ask_after(setup, [("use_borda",), ("target_outcome", [0, 0, 0])]), [[0], [2]])

    def test_a_tie_goes_to_the_lowest_number(self):
        setup = setup_of_domains([[(0, 1, 2)], [(2, 1, 0)]], 3)
        self.assertEqual(ask_after(setup, [("use_borda",), ("target_outcome", [0, 0])]), [[0], [0]])
        setup = setup_of_domains([[(2, 1, 0)], [(1, 2, 0)]], 3)
        self.assertEqual(ask_after(setup, [("use_borda",), ("target_outcome", [0, 0])]), [[0], [1]])

    def test_one_agent_gets_its_best(self):
        setup = setup_of_domains([[(2, 3, 0, 1), (1, 0, 3, 2)]], 4)
        calls = [("use_borda",), ("target_outcome", [0]), ("target_outcome", [1])]
        self.assertEqual(ask_after(setup, calls), [[0], [2], [1]])

    def test_every_profile_of_three_full_domains(self):
        domain = list(permutations(range(3)))
        domains = [domain, domain, domain]
        setup = [("create", 3, 3)] + [("set_full_domain", agent) for agent in range(3)]
        profiles = reference.profiles_of(domains)
        calls = [("use_borda",)] + [("target_outcome", list(profile)) for profile in profiles]
        expected = [[0]] + [[reference.borda(domains, profile, 3)] for profile in profiles]
        self.assertEqual(ask_after(setup, calls), expected)

    def test_four_alternatives(self):
        chance = random.Random(4)
        every = list(permutations(range(4)))
        for turn in range(20):
            domains = [chance.sample(every, chance.randint(1, 6)) for agent in range(chance.randint(1, 3))]
            profiles = reference.profiles_of(domains)
            calls = [("use_borda",)] + [("target_outcome", list(profile)) for profile in profiles]
            expected = [[0]] + [[reference.borda(domains, profile, 4)] for profile in profiles]
            self.assertEqual(ask_after(setup_of_domains(domains, 4), calls), expected)


class TargetOutcome(unittest.TestCase):
    def test_begins_with_0(self):
        calls = [("target_outcome", [one, two]) for one in range(6) for two in range(2)]
        self.assertEqual(ask_after(UNEVEN, calls), [[0]] * 12)

    def test_not_a_profile(self):
        for profile in NO_PROFILES:
            self.assertEqual(ask_after(UNEVEN, [("target_outcome", profile)]), [[-22]], profile)

    def test_domain_of_6_preferences(self):
        rankings = list(permutations(range(4)))
        setup = setup_of_domains([rankings[18:]], 4) + [("set_target_outcome", 3, [5])]
        calls = [("target_outcome", [index]) for index in range(7)]
        self.assertEqual(ask_after(setup, calls), [[0]] * 5 + [[3], [-22]])

    def test_domain_that_grows(self):
        calls = [
            ("create", 1, 2), ("add_preference", 0, [0, 1]), ("target_outcome", [1]),
            ("add_preference", 0, [1, 0]), ("target_outcome", [1]),
        ]
        self.assertEqual(last(calls[:3]), [-22])
        self.assertEqual(last(calls), [0])


if __name__ == "__main__":
    unittest.main()
