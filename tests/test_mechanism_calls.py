"""set_message_counts, set_mechanism_outcome, use_direct_mechanism, mechanism_outcome and message_counts."""

import unittest
from itertools import product

from tests.requests import LARGEST, ask_after

TWO_BY_TWO = [("create", 2, 2), ("set_full_domain", 0), ("set_full_domain", 1)]
TWO_BY_THREE = [("create", 2, 3), ("set_message_counts", [2, 3])]

# No message profile of TWO_BY_THREE.
NO_MESSAGE_PROFILES = [
    [], [0], [0, 0, 0], [2, 0], [0, 3], [1, 3], [LARGEST, 0], [0, LARGEST], [0] * 8, [LARGEST] * 8,
]


class SetMessageCounts(unittest.TestCase):
    def test_the_number_of_message_profiles(self):
        for counts in ([1], [6], [1, 1], [2, 3], [6, 6], [1, 1, 1], [2, 3, 4], [6, 6, 6]):
            product_of_counts = 1
            for count in counts:
                product_of_counts *= count
            found = ask_after([("create", len(counts), 2)], [("set_message_counts", counts)])
            self.assertEqual(found, [[product_of_counts]])

    def test_every_outcome_becomes_0(self):
        setup = list(TWO_BY_THREE)
        setup += [("set_mechanism_outcome", 2, list(messages)) for messages in product(range(2), range(3))]
        for counts in ([2, 3], [3, 2], [1, 1]):
            every = [list(messages) for messages in product(range(counts[0]), range(counts[1]))]
            calls = [("set_message_counts", counts)] + [("mechanism_outcome", messages) for messages in every]
            self.assertEqual(ask_after(setup, calls), [[len(every)]] + [[0]] * len(every))

    def test_the_counts_bound_the_messages(self):
        calls = [("mechanism_outcome", list(messages)) for messages in product(range(4), range(4))]
        expected = [[0] if one < 2 and two < 3 else [-22] for one, two in product(range(4), range(4))]
        self.assertEqual(ask_after(TWO_BY_THREE, calls), expected)

    def test_needs_no_preferences(self):
        self.assertEqual(ask_after([("create", 3, 4)], [("set_message_counts", [2, 2, 2])]), [[8]])

    def test_wrong_counts(self):
        wrong = [
            [], [2], [2, 2, 2], [0, 2], [2, 0], [7, 2], [2, 7], [LARGEST, 1], [1, LARGEST], [0, 0], [1] * 8, [0, 7],
        ]
        for counts in wrong:
            self.assertEqual(ask_after([("create", 2, 2)], [("set_message_counts", counts)]), [[-22]], counts)

    def test_refused_leaves_the_mechanism(self):
        setup = TWO_BY_THREE + [("set_mechanism_outcome", 2, [1, 2])]
        for counts in ([1, 7], [2], [3, 0]):
            calls = [("set_message_counts", counts), ("mechanism_outcome", [1, 2]), ("mechanism_outcome", [2, 0])]
            self.assertEqual(ask_after(setup, calls), [[-22], [2], [-22]])

    def test_the_target_stays(self):
        setup = TWO_BY_TWO + [("use_dictatorship", 0), ("set_message_counts", [3, 3])]
        calls = [("target_outcome", list(profile)) for profile in product(range(2), range(2))]
        self.assertEqual(ask_after(setup, calls), [[0], [0], [1], [1]])


class SetMechanismOutcome(unittest.TestCase):
    def test_answers_the_previous_outcome(self):
        calls = [
            ("set_mechanism_outcome", 2, [1, 2]), ("set_mechanism_outcome", 1, [1, 2]),
            ("set_mechanism_outcome", 0, [1, 2]), ("set_mechanism_outcome", 0, [1, 2]), ("mechanism_outcome", [1, 2]),
        ]
        self.assertEqual(ask_after(TWO_BY_THREE, calls), [[0], [2], [1], [0], [0]])

    def test_sets_this_message_profile_alone(self):
        every = [list(messages) for messages in product(range(2), range(3))]
        for messages in every:
            setup = TWO_BY_THREE + [("set_mechanism_outcome", 1, messages)]
            found = ask_after(setup, [("mechanism_outcome", other) for other in every])
            self.assertEqual(found, [[1 if other == messages else 0] for other in every])

    def test_three_agents(self):
        setup = [("create", 3, 4), ("set_message_counts", [3, 1, 6])]
        every = [list(messages) for messages in product(range(3), range(1), range(6))]
        sets = [("set_mechanism_outcome", place % 4, messages) for place, messages in enumerate(every)]
        reads = [("mechanism_outcome", messages) for messages in every]
        self.assertEqual(ask_after(setup, sets + reads), [[0]] * 18 + [[place % 4] for place in range(18)])

    def test_one_message_each(self):
        for agents in (1, 2, 3):
            messages = [0] * agents
            calls = [
                ("set_mechanism_outcome", 1, messages), ("set_mechanism_outcome", 0, messages),
                ("set_mechanism_outcome", 1, messages), ("mechanism_outcome", messages),
            ]
            self.assertEqual(ask_after([("create", agents, 2)], calls), [[0], [1], [0], [1]])

    def test_alternative_does_not_exist(self):
        for alternative in (3, 4, LARGEST):
            calls = [("set_mechanism_outcome", alternative, [0, 0]), ("mechanism_outcome", [0, 0])]
            self.assertEqual(ask_after(TWO_BY_THREE, calls), [[-22], [0]])

    def test_not_a_message_profile(self):
        for messages in NO_MESSAGE_PROFILES:
            found = ask_after(TWO_BY_THREE, [("set_mechanism_outcome", 1, messages)])
            self.assertEqual(found, [[-22]], messages)

    def test_both_wrong(self):
        self.assertEqual(ask_after(TWO_BY_THREE, [("set_mechanism_outcome", 3, [2, 0])]), [[-22]])

    def test_the_target_stays(self):
        setup = TWO_BY_TWO + [("use_direct_mechanism",), ("set_mechanism_outcome", 1, [0, 0])]
        calls = [("target_outcome", [0, 0]), ("mechanism_outcome", [0, 0])]
        self.assertEqual(ask_after(setup, calls), [[0], [1]])


class UseDirectMechanism(unittest.TestCase):
    def test_the_outcomes_of_the_target(self):
        setup = [
            ("create", 2, 3), ("set_full_domain", 0), ("add_preference", 1, [2, 1, 0]),
            ("add_preference", 1, [1, 0, 2]), ("use_borda",),
        ]
        profiles = [list(profile) for profile in product(range(6), range(2))]
        targets = ask_after(setup, [("target_outcome", profile) for profile in profiles])
        calls = [("use_direct_mechanism",)] + [("mechanism_outcome", profile) for profile in profiles]
        found = ask_after(setup, calls)
        self.assertEqual(found, [[12]] + targets)
        self.assertIn([1], targets)
        self.assertIn([2], targets)

    def test_the_messages_are_the_preferences(self):
        setup = [
            ("create", 3, 2), ("set_full_domain", 0), ("add_preference", 1, [1, 0]), ("set_full_domain", 2),
            ("set_message_counts", [6, 6, 6]),
        ]
        calls = [
            ("use_direct_mechanism",), ("mechanism_outcome", [1, 0, 1]), ("mechanism_outcome", [2, 0, 0]),
            ("mechanism_outcome", [0, 1, 0]), ("mechanism_outcome", [0, 0, 2]),
        ]
        self.assertEqual(ask_after(setup, calls), [[4], [0], [-22], [-22], [-22]])

    def test_the_largest(self):
        setup = [("create", 3, 3)] + [("set_full_domain", agent) for agent in range(3)] + [("use_dictatorship", 2)]
        calls = [("use_direct_mechanism",), ("mechanism_outcome", [0, 0, 5]), ("mechanism_outcome", [5, 5, 2])]
        self.assertEqual(ask_after(setup, calls), [[216], [2], [1]])

    def test_one_agent(self):
        setup = [("create", 1, 2), ("add_preference", 0, [1, 0]), ("use_borda",)]
        calls = [("use_direct_mechanism",), ("mechanism_outcome", [0]), ("mechanism_outcome", [1])]
        self.assertEqual(ask_after(setup, calls), [[1], [1], [-22]])

    def test_later_changes_of_the_target_do_not_reach_it(self):
        setup = TWO_BY_TWO + [("use_dictatorship", 0), ("use_direct_mechanism",)]
        every = [list(messages) for messages in product(range(2), range(2))]
        reads = [("mechanism_outcome", messages) for messages in every]
        changes = [
            ("set_target_outcome", 1, [0, 0]), ("use_dictatorship", 1), ("use_borda",),
            ("set_full_domain", 1), ("set_full_domain", 0),
        ]
        for change in changes:
            self.assertEqual(ask_after(setup + [change], reads), [[0], [0], [1], [1]], change)

    def test_a_domain_that_grows_later_does_not_reach_it(self):
        setup = [
            ("create", 1, 2), ("add_preference", 0, [1, 0]), ("use_dictatorship", 0), ("use_direct_mechanism",),
            ("add_preference", 0, [0, 1]),
        ]
        calls = [("target_outcome", [0]), ("mechanism_outcome", [0]), ("mechanism_outcome", [1])]
        self.assertEqual(ask_after(setup, calls), [[0], [1], [-22]])

    def test_later_changes_of_the_mechanism_do_not_reach_the_domains(self):
        setup = TWO_BY_TWO + [("use_borda",), ("use_direct_mechanism",), ("set_message_counts", [1, 1])]
        self.assertEqual(ask_after(setup, [("target_outcome", [1, 1])]), [[1]])


class MechanismOutcome(unittest.TestCase):
    def test_not_a_message_profile(self):
        for messages in NO_MESSAGE_PROFILES:
            self.assertEqual(ask_after(TWO_BY_THREE, [("mechanism_outcome", messages)]), [[-22]], messages)

    def test_needs_no_preferences(self):
        self.assertEqual(ask_after([("create", 2, 4)], [("mechanism_outcome", [0, 0])]), [[0]])


class MessageCounts(unittest.TestCase):
    def test_begins_with_one_message_each(self):
        for agents in (1, 2, 3):
            self.assertEqual(ask_after([("create", agents, 2)], [("message_counts",)]), [[agents] + [1] * agents])

    def test_as_set(self):
        for counts in ([1], [6], [2, 3], [6, 1], [4, 1, 6], [6, 6, 6]):
            setup = [("create", len(counts), 4), ("set_message_counts", counts)]
            self.assertEqual(ask_after(setup, [("message_counts",)]), [[len(counts), *counts]])

    def test_the_last_that_were_set(self):
        setup = [("create", 2, 2), ("set_message_counts", [5, 2]), ("set_message_counts", [3, 4])]
        calls = [("message_counts",), ("set_message_counts", [7, 1]), ("message_counts",)]
        self.assertEqual(ask_after(setup, calls), [[2, 3, 4], [-22], [2, 3, 4]])

    def test_of_the_direct_mechanism(self):
        setup = [("create", 3, 3), ("set_full_domain", 0), ("add_preference", 1, [2, 1, 0])]
        setup += [("add_preference", 2, [0, 1, 2]), ("add_preference", 2, [0, 2, 1]), ("use_direct_mechanism",)]
        calls = [("message_counts",), ("add_preference", 1, [0, 1, 2]), ("message_counts",), ("use_direct_mechanism",)]
        self.assertEqual(ask_after(setup, calls + calls[:1]), [[3, 6, 1, 2], [1], [3, 6, 1, 2], [24], [3, 6, 2, 2]])

    def test_not_changed_by_preferences_and_outcomes(self):
        setup = [("create", 2, 2), ("set_message_counts", [3, 4])]
        for call in (("add_preference", 0, [1, 0]), ("set_full_domain", 1), ("set_mechanism_outcome", 1, [2, 3])):
            self.assertEqual(ask_after(setup + [call], [("message_counts",)]), [[2, 3, 4]])

    def test_a_second_create_begins_anew(self):
        setup = [("create", 2, 2), ("set_message_counts", [3, 4]), ("create", 3, 2)]
        self.assertEqual(ask_after(setup, [("message_counts",)]), [[3, 1, 1, 1]])


if __name__ == "__main__":
    unittest.main()
