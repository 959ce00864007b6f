"""The document's requirements 1 to 5, by the answers alone, and the largest instance."""

import random
import unittest
from itertools import permutations, product

from tests import reference
from tests.games import Game, random_game, random_mechanism, setup_of_domains, setup_of_mechanism, small_games
from tests.requests import ask_after


def many_games(seed, turns, most_choices=6):
    chance = random.Random(seed)
    yield from small_games()
    for turn in range(turns):
        yield random_game(chance, most_choices)


def members(mask):
    return [member for member in range(mask.bit_length()) if mask >> member & 1]


class Requirements(unittest.TestCase):
    def test_1_maskins_theorem(self):
        implemented, violated = 0, 0
        for game in many_games(1, 300, 4):
            result, violation = ask_after(game.setup(), [("implements_in_nash",), ("monotonicity_violation",)])
            if result == [1]:
                self.assertEqual(violation, [0], game)
            implemented += result == [1]
            violated += violation[0]
        self.assertGreater(implemented, 30)
        self.assertGreater(violated, 30)

    def test_2_implementation_in_dominant_strategies_and_manipulations(self):
        implemented, manipulated = 0, 0
        for game in many_games(2, 300, 4):
            calls = [("implements_in_dominant_strategies",), ("find_manipulation",)]
            result, manipulation = ask_after(game.setup(), calls)
            if result == [1]:
                self.assertEqual(manipulation, [-33], game)
            implemented += result == [1]
            manipulated += manipulation != [-33]
        self.assertGreater(implemented, 30)
        self.assertGreater(manipulated, 30)

    def test_2_the_direct_mechanism_of_a_target_without_manipulation(self):
        seen = 0
        for game in many_games(3, 300, 4):
            if ask_after(game.setup(), [("find_manipulation",)]) != [[-33]]:
                continue
            seen += 1
            every = [(agent, index) for agent, domain in enumerate(game.domains) for index in range(len(domain))]
            setup = game.setup() + [("use_direct_mechanism",)]
            found = ask_after(setup, [("dominant_messages", agent, index) for agent, index in every])
            for (agent, index), answer in zip(every, found):
                self.assertIn(index, members(answer[0]), game)
        self.assertGreater(seen, 30)

    def test_3_dominant_messages_make_an_equilibrium(self):
        checked = 0
        for game in many_games(4, 200, 4):
            for profile in random.Random(4).sample(game.profiles(), min(3, len(game.profiles()))):
                calls = [("dominant_messages", agent, index) for agent, index in enumerate(profile)]
                calls += [("count_equilibria", list(profile))]
                found = ask_after(game.setup(), calls)
                calls = [("equilibrium", index, list(profile)) for index in range(found[-1][0])]
                equilibria = ask_after(game.setup(), calls) if calls else []
                for messages in product(*[members(answer[0]) for answer in found[:-1]]):
                    self.assertIn([len(profile), *messages], equilibria, game)
                    checked += 1
        self.assertGreater(checked, 300)

    def test_3_a_dominant_message_is_not_dominated(self):
        dominant_seen, dominated_seen = 0, 0
        for game in many_games(5, 200):
            every = [(agent, index) for agent, domain in enumerate(game.domains) for index in range(len(domain))]
            calls = [("dominant_messages", agent, index) for agent, index in every]
            calls += [("dominated_messages", agent, index) for agent, index in every]
            found = ask_after(game.setup(), calls)
            for dominant, dominated in zip(found, found[len(every):]):
                self.assertEqual(dominant[0] & dominated[0], 0, game)
                dominant_seen += dominant[0] > 0
                dominated_seen += dominated[0] > 0
        self.assertGreater(dominant_seen, 300)
        self.assertGreater(dominated_seen, 300)

    def test_4_duality_of_effectivity(self):
        chance = random.Random(6)
        for turn in range(120):
            agents, alternatives = chance.choice((1, 2, 3)), chance.choice((2, 3, 4))
            counts = tuple(chance.randint(1, (6, 6, 4)[agents - 1]) for agent in range(agents))
            mechanism = random_mechanism(chance, chance.choice(("any", "led", "flat")), counts, alternatives)
            setup = [("create", agents, alternatives)] + setup_of_mechanism(counts, mechanism)
            masks = list(product(range(2 ** agents), range(2 ** alternatives)))
            force = dict(zip(masks, ask_after(setup, [("can_force", *both) for both in masks])))
            respond = dict(zip(masks, ask_after(setup, [("can_respond", *both) for both in masks])))
            for coalition, wanted in masks:
                if force[coalition, wanted] == [1]:
                    self.assertEqual(respond[coalition, wanted], [1])
                others_force = force[2 ** agents - 1 - coalition, 2 ** alternatives - 1 - wanted]
                self.assertEqual(respond[coalition, wanted][0], 1 - others_force[0])

    def test_5_dynamics_end_in_an_equilibrium(self):
        chance = random.Random(7)
        ended = 0
        for game in many_games(8, 200):
            profile = list(chance.choice(game.profiles()))
            starts = chance.sample(list(game.mechanism), min(4, len(game.mechanism)))
            calls = [("best_response_dynamics", [*profile, *messages]) for messages in starts]
            found = [answer for answer in ask_after(game.setup(), calls) if answer != [-75]]
            ended += len(found)
            # From an equilibrium there is no step.
            calls = [("best_response_dynamics", profile + answer[1:]) for answer in found]
            again = ask_after(game.setup(), calls) if calls else []
            self.assertEqual(again, [[0] + answer[1:] for answer in found], game)
            for answer in found:
                self.assertTrue(reference.is_equilibrium(game, tuple(profile), tuple(answer[1:])), game)
        self.assertGreater(ended, 500)


class LargestInstance(unittest.TestCase):
    """3 agents, 4 alternatives, 6 preferences and 6 messages each, and 400 calls."""

    def setUp(self):
        self.chance = random.Random(400)
        rankings = list(permutations(range(4)))
        self.domains = [self.chance.sample(rankings, 6) for agent in range(3)]
        self.profiles = reference.profiles_of(self.domains)

    def questions(self, game, count):
        """So many calls, each with what the definitions answer, and both implementations among them."""
        asked = [
            (("implements_in_nash",), reference.implements_in_nash(game)),
            (("implements_in_dominant_strategies",), reference.implements_in_dominant_strategies(game)),
            (("message_counts",), [3, 6, 6, 6]),
            (("describe",), [3, 4, 6, 6, 6]),
        ]
        for agent, preference in product(range(3), range(6)):
            dominant = reference.mask(reference.dominant(game, agent, preference))
            dominated = reference.mask(reference.dominated(game, agent, preference))
            asked.append((("dominant_messages", agent, preference), [dominant]))
            asked.append((("dominated_messages", agent, preference), [dominated]))
        while len(asked) < count:
            asked += self.questions_by_chance(game)
        return asked[:count]

    def questions_by_chance(self, game):
        profile = self.chance.choice(self.profiles)
        messages = self.chance.choice(self.profiles)
        found = reference.equilibria(game, profile)
        outcomes = reference.mask(game.mechanism[equilibrium] for equilibrium in found)
        coalition, wanted = self.chance.randrange(8), self.chance.randrange(16)
        dynamics = reference.dynamics(game, profile, messages)
        return [
            (("count_equilibria", list(profile)), [len(found)]),
            (("equilibrium", len(found), list(profile)), [-33]),
            (("equilibrium_outcomes", list(profile)), [outcomes]),
            (("best_response_dynamics", [*profile, *messages]), dynamics),
            (("can_force", coalition, wanted), [reference.can_force(game, coalition, wanted)]),
            (("can_respond", coalition, wanted), [reference.can_respond(game, coalition, wanted)]),
        ] + [(("equilibrium", len(found) - 1, list(profile)), [3, *found[-1]]) for one in found[:1]]

    def check(self, game, setup):
        asked = self.questions(game, 400 - len(setup))
        found = ask_after(setup, [call for call, answer in asked])
        for (call, expected), answer in zip(asked, found):
            self.assertEqual(answer, expected, call)

    def test_bordas_direct_mechanism(self):
        target = {profile: reference.borda(self.domains, profile, 4) for profile in self.profiles}
        setup = setup_of_domains(self.domains, 4) + [("use_borda",), ("use_direct_mechanism",)]
        self.check(Game(self.domains, 4, target, (6, 6, 6), target), setup)

    def test_a_dictatorships_direct_mechanism(self):
        target = {profile: self.domains[2][profile[2]][0] for profile in self.profiles}
        setup = setup_of_domains(self.domains, 4) + [("use_dictatorship", 2), ("use_direct_mechanism",)]
        game = Game(self.domains, 4, target, (6, 6, 6), target)
        self.assertEqual(reference.implements_in_nash(game), [1])
        self.assertEqual(reference.implements_in_dominant_strategies(game), [1])
        self.check(game, setup)

    def test_a_mechanism_of_any_outcomes(self):
        target = {profile: 0 for profile in self.profiles}
        game = Game(self.domains, 4, target, (6, 6, 6), random_mechanism(self.chance, "any", (6, 6, 6), 4))
        self.check(game, game.setup())

    def test_the_constant_mechanism(self):
        target = {profile: 0 for profile in self.profiles}
        game = Game(self.domains, 4, target, (6, 6, 6), target)
        self.assertEqual(len(reference.equilibria(game, (0, 0, 0))), 216)
        self.check(game, game.setup())

    def test_one_call_over_and_over(self):
        setup = setup_of_domains(self.domains, 4) + [("use_dictatorship", 1), ("use_direct_mechanism",)]
        for call in (("implements_in_nash",), ("implements_in_dominant_strategies",)):
            calls = [call] * (400 - len(setup))
            self.assertEqual(ask_after(setup, calls), [[1]] * len(calls))


if __name__ == "__main__":
    unittest.main()
