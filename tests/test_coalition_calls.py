"""can_force and can_respond."""

import random
import unittest
from itertools import product

from tests import reference
from tests.games import random_game, setup_of_mechanism, small_games
from tests.requests import LARGEST, ask_after

EFFECTIVITY_CALLS = ("can_force", "can_respond")
MATCHING = [("create", 2, 2)] + setup_of_mechanism((2, 2), {(0, 0): 0, (0, 1): 1, (1, 0): 1, (1, 1): 0})


class CanForce(unittest.TestCase):
    def test_each_coalition_and_set_of_matching_messages(self):
        calls = [("can_force", coalition, alternatives) for coalition in range(4) for alternatives in range(4)]
        expected = [0, 0, 0, 1] * 3 + [0, 1, 1, 1]
        self.assertEqual(ask_after(MATCHING, calls), [[answer] for answer in expected])

    def test_a_leader_forces_each_outcome(self):
        setup = [("create", 3, 3), ("set_message_counts", [2, 3, 2])]
        setup += setup_of_mechanism((2, 3, 2), {key: key[1] for key in product(range(2), range(3), range(2))})
        for coalition, alternatives in product(range(8), range(8)):
            forced = alternatives == 7 or (coalition // 2 % 2 == 1 and alternatives > 0)
            found = ask_after(setup, [("can_force", coalition, alternatives)])
            self.assertEqual(found, [[int(forced)]], (coalition, alternatives))

    def test_one_message_that_forces_is_enough(self):
        # The message 2 of agent 0 alone leaves 1 and 3.
        mechanism = {(0, 0): 1, (0, 1): 0, (1, 0): 2, (1, 1): 3, (2, 0): 3, (2, 1): 1}
        setup = [("create", 2, 4)] + setup_of_mechanism((3, 2), mechanism)
        calls = [("can_force", 1, 10), ("can_force", 1, 2), ("can_force", 1, 8), ("can_force", 2, 10)]
        self.assertEqual(ask_after(setup, calls), [[1], [0], [0], [0]])
        self.assertEqual(ask_after(setup, [("can_force", 3, 2), ("can_force", 3, 5)]), [[1], [1]])


class CanRespond(unittest.TestCase):
    def test_each_coalition_and_set_of_matching_messages(self):
        calls = [("can_respond", coalition, alternatives) for coalition in range(4) for alternatives in range(4)]
        expected = [0, 0, 0, 1] + [0, 1, 1, 1] * 3
        self.assertEqual(ask_after(MATCHING, calls), [[answer] for answer in expected])

    def test_to_all_messages_of_the_others(self):
        # Agent 0 gets 1 against 0 and against 2, and 3 against 1 and against 2.
        mechanism = {(0, 0): 1, (0, 1): 0, (0, 2): 1, (1, 0): 2, (1, 1): 3, (1, 2): 3}
        setup = [("create", 2, 4)] + setup_of_mechanism((2, 3), mechanism)
        calls = [("can_respond", 1, 2), ("can_respond", 1, 8), ("can_respond", 1, 10), ("can_force", 1, 10)]
        self.assertEqual(ask_after(setup, calls), [[0], [0], [1], [0]])

    def test_the_others_together(self):
        # The outcome is whether agents 0 and 1 send the same; agent 2 changes nothing.
        every = list(product(range(2), repeat=3))
        setup = [("create", 3, 2)] + setup_of_mechanism((2, 2, 2), {key: int(key[0] == key[1]) for key in every})
        for coalition in range(8):
            calls = [("can_respond", coalition, 1), ("can_respond", coalition, 2)]
            able = 1 if coalition % 4 > 0 else 0
            self.assertEqual(ask_after(setup, calls), [[able], [able]], coalition)


class BothCalls(unittest.TestCase):
    def test_the_empty_coalition(self):
        for call in EFFECTIVITY_CALLS:
            # Nobody forces what isn't the only outcome, and all of the outcomes are always there.
            calls = [(call, 0, alternatives) for alternatives in range(4)]
            self.assertEqual(ask_after(MATCHING, calls), [[0], [0], [0], [1]])
            constant = [("create", 2, 2), ("set_message_counts", [2, 2])]
            self.assertEqual(ask_after(constant, calls), [[0], [1], [0], [1]])

    def test_the_empty_set_of_alternatives(self):
        for agents in (1, 2, 3):
            setup = [("create", agents, 2), ("set_message_counts", [3] * agents)]
            calls = [(call, coalition, 0) for call in EFFECTIVITY_CALLS for coalition in range(2 ** agents)]
            self.assertEqual(ask_after(setup, calls), [[0]] * len(calls))

    def test_one_agent(self):
        setup = [("create", 1, 3)] + setup_of_mechanism((2,), {(0,): 0, (1,): 2})
        for call in EFFECTIVITY_CALLS:
            found = ask_after(setup, [(call, 0, alternatives) for alternatives in range(8)])
            self.assertEqual(found, [[0], [0], [0], [0], [0], [1], [0], [1]])
            found = ask_after(setup, [(call, 1, alternatives) for alternatives in range(8)])
            self.assertEqual(found, [[0], [1], [0], [1], [1], [1], [1], [1]])

    def test_one_message_each(self):
        for agents in (1, 2, 3):
            setup = [("create", agents, 4), ("set_mechanism_outcome", 2, [0] * agents)]
            for call, coalition in product(EFFECTIVITY_CALLS, range(2 ** agents)):
                found = ask_after(setup, [(call, coalition, alternatives) for alternatives in range(16)])
                self.assertEqual(found, [[alternatives // 4 % 2] for alternatives in range(16)])

    def test_need_no_preferences(self):
        calls = [(call, 1, 1) for call in EFFECTIVITY_CALLS]
        self.assertEqual(ask_after([("create", 3, 4)], calls), [[1], [1]])

    def test_agents_that_do_not_exist(self):
        for agents in (1, 2, 3):
            for call, coalition in product(EFFECTIVITY_CALLS, (2 ** agents, 2 ** agents + 1, LARGEST)):
                self.assertEqual(ask_after([("create", agents, 2)], [(call, coalition, 1)]), [[-22]])
            calls = [(call, 2 ** agents - 1, 1) for call in EFFECTIVITY_CALLS]
            self.assertEqual(ask_after([("create", agents, 2)], calls), [[1], [1]])

    def test_alternatives_that_do_not_exist(self):
        for count in (2, 3, 4):
            for call, alternatives in product(EFFECTIVITY_CALLS, (2 ** count, 2 ** count + 1, LARGEST)):
                self.assertEqual(ask_after([("create", 2, count)], [(call, 1, alternatives)]), [[-22]])
            calls = [(call, 1, 2 ** count - 1) for call in EFFECTIVITY_CALLS]
            self.assertEqual(ask_after([("create", 2, count)], calls), [[1], [1]])

    def test_both_wrong(self):
        for call in EFFECTIVITY_CALLS:
            self.assertEqual(ask_after([("create", 2, 2)], [(call, 4, 4)]), [[-22]])


class LikeTheDefinitions(unittest.TestCase):
    def check(self, game):
        masks = list(product(range(2 ** len(game.counts)), range(2 ** game.alternative_count)))
        calls = [("can_force", coalition, alternatives) for coalition, alternatives in masks]
        calls += [("can_respond", coalition, alternatives) for coalition, alternatives in masks]
        expected = [[reference.can_force(game, coalition, alternatives)] for coalition, alternatives in masks]
        expected += [[reference.can_respond(game, coalition, alternatives)] for coalition, alternatives in masks]
        setup = [("create", len(game.counts), game.alternative_count)]
        self.assertEqual(ask_after(setup + setup_of_mechanism(game.counts, game.mechanism), calls), expected, game)

    def test_every_small_game(self):
        for game in small_games():
            self.check(game)

    def test_many_games(self):
        chance = random.Random(22)
        for turn in range(60):
            self.check(random_game(chance, 3))


if __name__ == "__main__":
    unittest.main()
