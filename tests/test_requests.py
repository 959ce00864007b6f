"""Whole requests: the order of the checks, the state, and the lists handed in and given back."""

import unittest
from itertools import permutations, product

from gameforms.agents import answers
from tests.requests import LARGEST, NUMBERS, ask, ask_after, written

# One call of each kind that would be refused by its own checks, where it has such.
WRONG_CALLS = {
    "add_preference": ("add_preference", 9, [0, 0]),
    "set_full_domain": ("set_full_domain", 9),
    "set_target_outcome": ("set_target_outcome", 9, [9]),
    "use_dictatorship": ("use_dictatorship", 9),
    "use_borda": ("use_borda",),
    "target_outcome": ("target_outcome", []),
    "monotonicity_violation": ("monotonicity_violation",),
    "find_manipulation": ("find_manipulation",),
    "set_message_counts": ("set_message_counts", [0]),
    "set_mechanism_outcome": ("set_mechanism_outcome", 9, [9]),
    "use_direct_mechanism": ("use_direct_mechanism",),
    "mechanism_outcome": ("mechanism_outcome", []),
    "message_counts": ("message_counts",),
    "count_equilibria": ("count_equilibria", [9]),
    "equilibrium": ("equilibrium", 9, [9]),
    "equilibrium_outcomes": ("equilibrium_outcomes", []),
    "implements_in_nash": ("implements_in_nash",),
    "best_response_dynamics": ("best_response_dynamics", [9]),
    "dominant_messages": ("dominant_messages", 9, 9),
    "dominated_messages": ("dominated_messages", 0, 9),
    "implements_in_dominant_strategies": ("implements_in_dominant_strategies",),
    "can_force": ("can_force", 9, 9),
    "can_respond": ("can_respond", 0, LARGEST),
    "describe": ("describe",),
}

RIGHT_CALLS = {
    "add_preference": ("add_preference", 0, [1, 0]),
    "set_full_domain": ("set_full_domain", 0),
    "set_target_outcome": ("set_target_outcome", 1, [0, 0]),
    "use_dictatorship": ("use_dictatorship", 0),
    "use_borda": ("use_borda",),
    "target_outcome": ("target_outcome", [0, 0]),
    "monotonicity_violation": ("monotonicity_violation",),
    "find_manipulation": ("find_manipulation",),
    "set_message_counts": ("set_message_counts", [2, 2]),
    "set_mechanism_outcome": ("set_mechanism_outcome", 1, [0, 0]),
    "use_direct_mechanism": ("use_direct_mechanism",),
    "mechanism_outcome": ("mechanism_outcome", [0, 0]),
    "message_counts": ("message_counts",),
    "count_equilibria": ("count_equilibria", [0, 0]),
    "equilibrium": ("equilibrium", 0, [0, 0]),
    "equilibrium_outcomes": ("equilibrium_outcomes", [0, 0]),
    "implements_in_nash": ("implements_in_nash",),
    "best_response_dynamics": ("best_response_dynamics", [0, 0, 0, 0]),
    "dominant_messages": ("dominant_messages", 0, 0),
    "dominated_messages": ("dominated_messages", 0, 0),
    "implements_in_dominant_strategies": ("implements_in_dominant_strategies",),
    "can_force": ("can_force", 1, 1),
    "can_respond": ("can_respond", 1, 1),
    "describe": ("describe",),
}

NEEDS_READY = [
    "set_target_outcome", "use_dictatorship", "use_borda", "target_outcome", "monotonicity_violation",
    "find_manipulation", "use_direct_mechanism", "count_equilibria", "equilibrium", "equilibrium_outcomes",
    "implements_in_nash", "best_response_dynamics", "implements_in_dominant_strategies",
]


class Examples(unittest.TestCase):
    def test_all_rows_in_their_order(self):
        rows = [
            (("create", 2, 2), [0]),
            (("set_full_domain", 0), [2]),
            (("set_full_domain", 1), [2]),
            (("use_borda",), [0]),
            (("set_message_counts", [2, 2]), [4]),
            (("set_mechanism_outcome", 1, [0, 1]), [0]),
            (("set_mechanism_outcome", 1, [1, 0]), [0]),
            (("count_equilibria", [0, 0]), [2]),
            (("equilibrium", 1, [0, 0]), [2, 1, 1]),
            (("count_equilibria", [0, 1]), [0]),
            (("implements_in_nash",), [0, 0, 1]),
            (("best_response_dynamics", [0, 0, 0, 1]), [1, 1, 1]),
            (("best_response_dynamics", [0, 1, 0, 0]), [-75]),
            (("can_force", 1, 1), [0]),
            (("can_respond", 1, 1), [1]),
            (("use_direct_mechanism",), [4]),
            (("dominant_messages", 0, 0), [1]),
            (("implements_in_dominant_strategies",), [1]),
        ]
        self.assertEqual(ask([call for call, answer in rows]), [answer for call, answer in rows])

    def test_as_whole_numbers(self):
        calls = [0, 2, 2, 2, 0, 2, 1, 5, 9, 2, 2, 2, 10, 1, 2, 0, 1, 10, 1, 2, 1, 0]
        calls += [14, 2, 0, 0, 15, 1, 2, 0, 0, 14, 2, 0, 1, 17, 18, 4, 0, 0, 0, 1, 18, 4, 0, 1, 0, 0]
        calls += [22, 1, 1, 23, 1, 1, 11, 19, 0, 0, 21]
        expected = [1, 0, 1, 2, 1, 2, 1, 0, 1, 4, 1, 0, 1, 0]
        expected += [1, 2, 3, 2, 1, 1, 1, 0, 3, 0, 0, 1, 3, 1, 1, 1, 1, -75]
        expected += [1, 0, 1, 1, 1, 4, 1, 1, 1, 1]
        self.assertEqual(answers(calls), expected)


class NoInstance(unittest.TestCase):
    def test_every_call_checks_it_first(self):
        self.assertEqual({"create", *WRONG_CALLS}, set(NUMBERS))
        for calls in (WRONG_CALLS, RIGHT_CALLS):
            for call in calls.values():
                self.assertEqual(ask([call]), [[-11]], call)

    def test_a_failing_create_makes_none(self):
        for call in RIGHT_CALLS.values():
            self.assertEqual(ask([("create", 4, 2), ("create", 2, 5), call]), [[-22], [-22], [-11]], call)

    def test_a_later_create_helps(self):
        calls = [("mechanism_outcome", [0]), ("create", 0, 2), ("create", 1, 2), ("mechanism_outcome", [0])]
        self.assertEqual(ask(calls), [[-11], [-22], [0], [0]])


class NotReady(unittest.TestCase):
    def test_these_calls_check_it_ahead_of_their_own_errors(self):
        setups = [
            [("create", 1, 2)],
            [("create", 2, 2), ("set_full_domain", 0)],
            [("create", 2, 2), ("set_full_domain", 1)],
            [("create", 3, 3), ("set_full_domain", 0), ("set_full_domain", 2)],
        ]
        for setup in setups:
            for name in NEEDS_READY:
                for calls in (WRONG_CALLS, RIGHT_CALLS):
                    self.assertEqual(ask_after(setup, [calls[name]]), [[-16]], (setup, name))

    def test_the_other_calls_do_not_check_it(self):
        expected = {
            "add_preference": ([-2], [0]),
            "set_full_domain": ([-2], [2]),
            "set_message_counts": ([-22], [4]),
            "set_mechanism_outcome": ([-22], [0]),
            "mechanism_outcome": ([-22], [0]),
            "message_counts": ([2, 1, 1], [2, 1, 1]),
            "dominant_messages": ([-2], [-2]),
            "dominated_messages": ([-2], [-2]),
            "can_force": ([-22], [1]),
            "can_respond": ([-22], [1]),
            "describe": ([2, 2, 0, 0], [2, 2, 0, 0]),
        }
        self.assertEqual(set(expected) | set(NEEDS_READY), set(RIGHT_CALLS))
        for name, (wrong, right) in expected.items():
            self.assertEqual(ask_after([("create", 2, 2)], [WRONG_CALLS[name]]), [wrong], name)
            self.assertEqual(ask_after([("create", 2, 2)], [RIGHT_CALLS[name]]), [right], name)

    def test_no_call_is_refused_so_once_ready(self):
        setup = [("create", 2, 2), ("add_preference", 1, [1, 0]), ("add_preference", 0, [0, 1])]
        for name in NEEDS_READY:
            for calls in (WRONG_CALLS, RIGHT_CALLS):
                self.assertNotEqual(ask_after(setup, [calls[name]]), [[-16]], name)


# Asks for whatever these calls show of a state with two agents and three alternatives.
PROBES = (
    [("target_outcome", list(profile)) for profile in product(range(7), range(4))]
    + [("mechanism_outcome", list(messages)) for messages in product(range(4), range(5))]
    + [("monotonicity_violation",), ("find_manipulation",), ("message_counts",), ("describe",)]
    + [("implements_in_nash",), ("implements_in_dominant_strategies",)]
    + [("count_equilibria", list(profile)) for profile in product(range(6), range(2))]
    + [("dominant_messages", agent, preference) for agent in range(2) for preference in range(6)]
    + [("can_force", 1, alternatives) for alternatives in range(8)]
    + [("set_message_counts", [1]), ("set_mechanism_outcome", 3, [0, 0]), ("set_full_domain", 2)]
    + [("use_borda",)] + [("target_outcome", list(profile)) for profile in product(range(6), range(3))]
    + [("use_direct_mechanism",)] + [("mechanism_outcome", list(profile)) for profile in product(range(6), range(3))]
    + [("add_preference", agent, list(ranking)) for agent in range(2) for ranking in permutations(range(3))]
)

FILLED = [
    ("create", 2, 3), ("set_full_domain", 0), ("add_preference", 1, [2, 1, 0]), ("add_preference", 1, [1, 0, 2]),
    ("use_dictatorship", 1), ("set_target_outcome", 2, [4, 0]), ("set_target_outcome", 0, [2, 1]),
    ("set_message_counts", [3, 4]), ("set_mechanism_outcome", 2, [2, 3]), ("set_mechanism_outcome", 1, [0, 2]),
]

REFUSED = [
    (("create", 0, 3), -22), (("create", 4, 2), -22), (("create", 2, 1), -22), (("create", 1, 5), -22),
    (("create", LARGEST, LARGEST), -22),
    (("add_preference", 2, [0, 1, 2]), -2), (("add_preference", 1, [0, 1]), -22),
    (("add_preference", 1, [0, 1, 3]), -22), (("add_preference", 1, []), -22), (("add_preference", 1, [2, 1, 0]), -17),
    (("add_preference", 0, [0, 1, 2]), -17), (("set_full_domain", 2), -2),
    (("set_target_outcome", 3, [0, 0]), -22), (("set_target_outcome", 1, [6, 0]), -22),
    (("set_target_outcome", 1, [0, 0, 0]), -22), (("set_target_outcome", 1, []), -22),
    (("use_dictatorship", 2), -2), (("target_outcome", [0, 2]), -22),
    (("set_message_counts", [3, 7]), -22), (("set_message_counts", [0, 4]), -22), (("set_message_counts", [2]), -22),
    (("set_message_counts", [2, 2, 2]), -22),
    (("set_mechanism_outcome", 3, [0, 0]), -22), (("set_mechanism_outcome", 1, [3, 0]), -22),
    (("set_mechanism_outcome", 1, [0]), -22), (("mechanism_outcome", [0, 4]), -22),
    (("count_equilibria", [6, 0]), -22), (("count_equilibria", []), -22), (("equilibrium", 0, [0, 2]), -22),
    (("equilibrium", 12, [0, 0]), -33), (("equilibrium", LARGEST, [0, 0]), -33),
    (("equilibrium_outcomes", [0]), -22), (("best_response_dynamics", [0, 0, 3, 0]), -22),
    (("best_response_dynamics", [0, 2, 0, 0]), -22), (("best_response_dynamics", [0, 0]), -22),
    (("dominant_messages", 2, 0), -2), (("dominant_messages", 1, 2), -2), (("dominated_messages", 0, 6), -2),
    (("dominated_messages", LARGEST, LARGEST), -2), (("can_force", 4, 1), -22), (("can_force", 1, 8), -22),
    (("can_respond", 4, 1), -22), (("can_respond", 1, 8), -22),
]

LOOKING = [
    ("target_outcome", [4, 0]), ("monotonicity_violation",), ("find_manipulation",), ("mechanism_outcome", [2, 3]),
    ("message_counts",), ("count_equilibria", [4, 0]), ("equilibrium", 0, [0, 0]), ("equilibrium_outcomes", [4, 1]),
    ("implements_in_nash",), ("best_response_dynamics", [4, 0, 0, 0]), ("dominant_messages", 1, 0),
    ("dominated_messages", 0, 4), ("implements_in_dominant_strategies",), ("can_force", 1, 3), ("can_respond", 2, 5),
    ("describe",),
]


class UnchangedState(unittest.TestCase):
    def test_refused_calls(self):
        expected = ask_after(FILLED, PROBES)
        for call, code in REFUSED:
            self.assertEqual(ask_after(FILLED, [call] + PROBES), [[code]] + expected, call)

    def test_refused_calls_one_behind_another(self):
        calls = [call for call, code in REFUSED]
        codes = [[code] for call, code in REFUSED]
        self.assertEqual(ask_after(FILLED, calls + PROBES), codes + ask_after(FILLED, PROBES))

    def test_calls_that_only_look(self):
        expected = ask_after(FILLED, PROBES)
        for call in LOOKING:
            found = ask_after(FILLED, [call, call] + PROBES)
            self.assertEqual(found[0], found[1])
            self.assertGreaterEqual(found[0][0], 0)
            self.assertEqual(found[2:], expected, call)

    def test_find_manipulation_that_finds_none(self):
        setup = [("create", 2, 3), ("set_full_domain", 0), ("set_full_domain", 1), ("use_dictatorship", 1)]
        found = ask_after(setup, [("find_manipulation",), ("monotonicity_violation",)] + PROBES)
        self.assertEqual(found[:2], [[-33], [0]])
        self.assertEqual(found[2:], ask_after(setup, PROBES))

    def test_calls_that_are_not_ready(self):
        setup = [("create", 2, 3), ("set_full_domain", 0), ("set_message_counts", [3, 4])]
        setup += [("set_mechanism_outcome", 2, [2, 3])]
        expected = ask_after(setup, PROBES)
        for name in NEEDS_READY:
            self.assertEqual(ask_after(setup, [RIGHT_CALLS[name]] + PROBES), [[-16]] + expected, name)

    def test_dynamics_that_do_not_end(self):
        setup = [("create", 2, 2), ("set_full_domain", 0), ("set_full_domain", 1), ("set_message_counts", [2, 2])]
        setup += [("set_mechanism_outcome", 1, [0, 1]), ("set_mechanism_outcome", 1, [1, 0])]
        found = ask_after(setup, [("best_response_dynamics", [0, 1, 0, 0])] + PROBES)
        self.assertEqual(found, [[-75]] + ask_after(setup, PROBES))

    def test_looking_calls_are_all_that_may_not_change_the_state(self):
        changing = {name for name, number in NUMBERS.items() if number <= 5 or 9 <= number <= 11}
        self.assertEqual({call[0] for call in LOOKING}, set(NUMBERS) - changing)

    def test_limits(self):
        rankings = [list(ranking) for ranking in permutations(range(4))]
        setup = [("create", 1, 4)] + [("add_preference", 0, ranking) for ranking in rankings[18:]]
        setup += [("use_dictatorship", 0)]
        looks = [("target_outcome", [index]) for index in range(7)]
        refused = [("add_preference", 0, rankings[0]), ("set_full_domain", 0)]
        self.assertEqual(ask_after(setup, refused + looks), [[-28]] * 2 + [[3]] * 6 + [[-22]])


class Lists(unittest.TestCase):
    def test_the_form_of_calls_and_answers(self):
        calls = [
            0, 1, 2,
            2, 0,
            3, 1, 1, 0,
            7,
            8,
            6, 2, 0, 0,
            9, 1, 3,
            10, 1, 1, 2,
            12, 1, 2,
            4, 0,
            8,
            5,
            11,
            1, 0, 2, 1, 0,
        ]
        expected = [
            1, 0,
            1, 2,
            1, 0,
            3, 1, 0, 1,
            3, 0, 1, 0,
            1, -22,
            1, 3,
            1, 0,
            1, 1,
            1, 0,
            1, -33,
            1, 0,
            1, 2,
            1, -17,
        ]
        self.assertEqual(answers(calls), expected)

    def test_empty_rows(self):
        calls = [0, 1, 2, 1, 0, 0, 2, 0, 3, 1, 0, 6, 0, 9, 0, 10, 0, 0, 12, 0, 6, 1, 1]
        self.assertEqual(answers(calls), [1, 0, 1, -22, 1, 2] + [1, -22] * 5 + [1, 0])

    def test_rows_of_8_and_the_largest_numbers(self):
        row = [8] + [LARGEST] * 8
        calls = [0, 3, 4, 1, 0] + row + [9] + row + [10, LARGEST] + row + [12] + row + [0, LARGEST, LARGEST]
        self.assertEqual(answers(calls), [1, 0] + [1, -22] * 5)

    def test_answers_are_whole_numbers_in_a_list(self):
        found = answers(written(FILLED + PROBES))
        self.assertIs(type(found), list)
        self.assertEqual({type(number) for number in found}, {int})

    def test_what_is_handed_in_stays(self):
        calls = written(FILLED + [call for call, code in REFUSED] + PROBES)
        before = list(calls)
        answers(calls)
        self.assertEqual(calls, before)

    def test_what_is_given_back_is_new(self):
        calls = written(FILLED + PROBES)
        first = answers(calls)
        kept = list(first)
        first.clear()
        self.assertEqual(answers(calls), kept)

    def test_nothing_is_kept_for_the_next_list(self):
        self.assertEqual(answers(written(FILLED))[-2:], [1, 0])
        for call in RIGHT_CALLS.values():
            self.assertEqual(ask([call]), [[-11]])
        fresh = [("create", 2, 3), ("target_outcome", [0, 0]), ("mechanism_outcome", [0, 0])]
        fresh += [("mechanism_outcome", [2, 3]), ("add_preference", 0, [0, 1, 2])]
        self.assertEqual(ask(fresh), [[0], [-16], [0], [-22], [0]])

    def test_the_same_list_answers_the_same(self):
        calls = written(FILLED + PROBES)
        first = answers(calls)
        answers(written([("create", 3, 3), ("set_full_domain", 0), ("create", 1, 2)]))
        self.assertEqual(answers(calls), first)

    def test_400_calls(self):
        calls = [("create", 3, 3)] + [("set_full_domain", agent) for agent in range(3)] + [("use_dictatorship", 2)]
        calls += [("monotonicity_violation",), ("find_manipulation",)] * 5
        calls += [("set_message_counts", [6, 6, 6])] * (400 - len(calls))
        found = ask(calls)
        self.assertEqual(found[5:15], [[0], [-33]] * 5)
        self.assertEqual(found[15:], [[216]] * 385)


class CreateBesideAnInstance(unittest.TestCase):
    def test_a_failing_one_leaves_it(self):
        expected = ask_after(FILLED, PROBES)
        for agents, alternatives in ((0, 2), (4, 2), (2, 1), (2, 5), (LARGEST, 3)):
            found = ask_after(FILLED, [("create", agents, alternatives)] + PROBES)
            self.assertEqual(found, [[-22]] + expected)

    def test_a_second_one_is_like_the_first(self):
        expected = ask_after([("create", 2, 3)], PROBES)
        self.assertEqual(ask_after(FILLED + [("create", 2, 3)], PROBES), expected)


if __name__ == "__main__":
    unittest.main()
