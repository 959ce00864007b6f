"""monotonicity_violation and find_manipulation."""

import random
import unittest
from itertools import permutations

from tests import reference
from tests.games import setup_of_domains, setup_of_target
from tests.requests import ask_after


def random_target(chance):
    """Domains, a number of alternatives and a target, some of them with few faults."""
    alternative_count = chance.choice((2, 3, 4))
    every = list(permutations(range(alternative_count)))
    agent_count = chance.randint(1, 3)
    most = min(len(every), (6, 6, 4)[agent_count - 1])
    domains = [chance.sample(every, chance.randint(1, most)) for agent in range(agent_count)]
    profiles = reference.profiles_of(domains)
    kind = chance.choice(("any", "constant", "dictator", "nearly"))
    dictator = chance.randrange(agent_count)
    target = {}
    for profile in profiles:
        target[profile] = domains[dictator][profile[dictator]][0]
        if kind == "constant":
            target[profile] = alternative_count - 1
        if kind == "any":
            target[profile] = chance.randrange(alternative_count)
    if kind == "nearly":
        target[chance.choice(profiles)] = chance.randrange(alternative_count)
    return domains, alternative_count, target


def setup_of(domains, alternative_count, target):
    return setup_of_domains(domains, alternative_count) + setup_of_target(target)


class MonotonicityViolation(unittest.TestCase):
    def asked(self, setup):
        return ask_after(setup, [("monotonicity_violation",)])[0]

    def test_dictatorship_has_none(self):
        for agent in range(2):
            setup = [("create", 2, 3), ("set_full_domain", 0), ("set_full_domain", 1), ("use_dictatorship", agent)]
            self.assertEqual(self.asked(setup), [0])

    def test_constant_target_has_none(self):
        setup = [("create", 3, 3)] + [("set_full_domain", agent) for agent in range(3)]
        self.assertEqual(self.asked(setup), [0])

    def test_lone_profile_has_none(self):
        self.assertEqual(self.asked([("create", 1, 2), ("add_preference", 0, [0, 1])]), [0])

    def test_one_agent(self):
        # The outcome 1 at [0, 1] may be kept at [1, 0], which ranks it better, but isn't.
        setup = [("create", 1, 2), ("set_full_domain", 0), ("set_target_outcome", 1, [0])]
        self.assertEqual(self.asked(setup), [1, 0, 1])

    def test_two_agents(self):
        # At [1, 1] both prefer 1, and yet it's lost; it was the outcome of [0, 1].
        setup = [("create", 2, 2), ("set_full_domain", 0), ("set_full_domain", 1), ("set_target_outcome", 1, [0, 1])]
        self.assertEqual(self.asked(setup), [1, 0, 1, 1, 1])

    def test_borda_of_two_agents_and_three_alternatives(self):
        domain = list(permutations(range(3)))
        domains = [domain, domain]
        target = {profile: reference.borda(domains, profile, 3) for profile in reference.profiles_of(domains)}
        setup = [("create", 2, 3), ("set_full_domain", 0), ("set_full_domain", 1), ("use_borda",)]
        expected = reference.violation(domains, target, 3)
        self.assertEqual(expected[0], 1)
        self.assertEqual(self.asked(setup), expected)

    def test_the_first_p_then_the_first_q(self):
        # Both rankings have 0 last, so each may stand for p or q of the other.
        setup = [
            ("create", 1, 3), ("add_preference", 0, [1, 2, 0]), ("add_preference", 0, [2, 1, 0]),
            ("add_preference", 0, [0, 1, 2]), ("set_target_outcome", 1, [1]), ("set_target_outcome", 1, [2]),
        ]
        self.assertEqual(self.asked(setup), [1, 0, 1])

    def test_p_may_come_after_q(self):
        setup = [("create", 1, 2), ("set_full_domain", 0), ("use_dictatorship", 0), ("set_target_outcome", 1, [0])]
        self.assertEqual(self.asked(setup), [0])
        setup = [
            ("create", 1, 3), ("add_preference", 0, [2, 0, 1]), ("add_preference", 0, [0, 2, 1]),
            ("set_target_outcome", 2, [1]),
        ]
        self.assertEqual(self.asked(setup), [1, 0, 1])
        setup = [
            ("create", 1, 3), ("add_preference", 0, [2, 1, 0]), ("add_preference", 0, [0, 2, 1]),
            ("set_target_outcome", 1, [0]), ("set_target_outcome", 2, [1]),
        ]
        self.assertEqual(self.asked(setup), [1, 1, 0])

    def test_like_the_definition(self):
        chance = random.Random(7)
        seen = []
        for turn in range(300):
            domains, alternative_count, target = random_target(chance)
            expected = reference.violation(domains, target, alternative_count)
            self.assertEqual(self.asked(setup_of(domains, alternative_count, target)), expected, (domains, target))
            seen.append(expected[0])
        self.assertGreater(seen.count(0), 50)
        self.assertGreater(seen.count(1), 50)


class FindManipulation(unittest.TestCase):
    def asked(self, setup):
        return ask_after(setup, [("find_manipulation",)])[0]

    def test_dictatorship_has_none(self):
        for agent in range(2):
            setup = [("create", 2, 3), ("set_full_domain", 0), ("set_full_domain", 1), ("use_dictatorship", agent)]
            self.assertEqual(self.asked(setup), [-33])

    def test_constant_target_has_none(self):
        setup = [("create", 3, 3)] + [("set_full_domain", agent) for agent in range(3)]
        self.assertEqual(self.asked(setup), [-33])

    def test_lone_profile_has_none(self):
        self.assertEqual(self.asked([("create", 1, 2), ("add_preference", 0, [0, 1])]), [-33])

    def test_one_agent(self):
        setup = [("create", 1, 2), ("set_full_domain", 0), ("set_target_outcome", 1, [0])]
        self.assertEqual(self.asked(setup), [0, 1, 0])

    def test_agent_then_preference_then_profile(self):
        setup = [
            ("create", 2, 3), ("add_preference", 0, [0, 1, 2]), ("add_preference", 1, [0, 1, 2]),
            ("add_preference", 1, [1, 2, 0]), ("add_preference", 1, [2, 1, 0]),
            ("set_target_outcome", 2, [0, 1]),
        ]
        # At [0, 1] agent 1 has 1 2 0 and gets 2; at [0, 2] it gets 0, and would get 2 by reporting 1.
        self.assertEqual(self.asked(setup), [1, 1, 0, 2])

    def test_the_lower_agent_comes_first(self):
        setup = [
            ("create", 2, 2), ("set_full_domain", 0), ("set_full_domain", 1),
            ("set_target_outcome", 1, [0, 0]),
        ]
        self.assertEqual(self.asked(setup), [0, 1, 0, 0])

    def test_the_profile_comes_ahead_of_the_agent(self):
        setup = [
            ("create", 2, 2), ("set_full_domain", 0), ("set_full_domain", 1),
            ("set_target_outcome", 1, [0, 0]), ("set_target_outcome", 1, [1, 0]),
        ]
        self.assertEqual(self.asked(setup), [1, 1, 0, 0])

    def test_the_lowest_other_preference_comes_first(self):
        # Every other report gains; the best one comes last.
        setup = [
            ("create", 1, 3), ("add_preference", 0, [0, 1, 2]), ("add_preference", 0, [1, 0, 2]),
            ("add_preference", 0, [2, 1, 0]), ("set_target_outcome", 2, [0]), ("set_target_outcome", 1, [1]),
        ]
        self.assertEqual(self.asked(setup), [0, 1, 0])

    def test_borda_of_three_agents(self):
        domain = list(permutations(range(3)))
        domains = [domain, domain, domain]
        target = {profile: reference.borda(domains, profile, 3) for profile in reference.profiles_of(domains)}
        setup = [("create", 3, 3)] + [("set_full_domain", agent) for agent in range(3)] + [("use_borda",)]
        self.assertEqual(self.asked(setup), reference.manipulation(domains, target))

    def test_like_the_definition(self):
        chance = random.Random(8)
        refused = 0
        for turn in range(300):
            domains, alternative_count, target = random_target(chance)
            expected = reference.manipulation(domains, target)
            self.assertEqual(self.asked(setup_of(domains, alternative_count, target)), expected, (domains, target))
            refused += expected == [-33]
        self.assertGreater(refused, 50)
        self.assertGreater(300 - refused, 50)


if __name__ == "__main__":
    unittest.main()
