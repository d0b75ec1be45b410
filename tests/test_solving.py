"""Point 26 and the interface of reactivesynth/solving.py."""

import unittest

from reactivesynth.games import Game, choices_win
from reactivesynth.solving import Solution, solve
from tests.oracles import slow_choices_win, slow_winners
from tests.samples import generator, random_game


class SolutionTest(unittest.TestCase):
    def test_attributes(self):
        winners, choices = [0, 1], [1, -1]
        solution = Solution(winners, choices)
        winners[0] = 1
        choices.append(0)
        self.assertEqual((solution.winners, solution.choices), ((0, 1), (1, -1)))
        self.assertIs(type(solution.winners), tuple)
        self.assertIs(type(solution.choices), tuple)


class SolveTest(unittest.TestCase):
    def check(self, game):
        """Check the form of the solution, and that all choices win."""
        solution = solve(game)
        self.assertEqual(len(solution.winners), len(game.moves))
        self.assertEqual(len(solution.choices), len(game.moves))
        for position, winner in enumerate(solution.winners):
            self.assertIn(winner, (0, 1))
            if game.owners[position] == winner:
                self.assertIn(solution.choices[position], game.moves[position])
            else:
                self.assertEqual(solution.choices[position], -1)
            self.assertIs(choices_win(game, winner, list(solution.choices), position), True)
        return solution

    def test_example(self):
        solution = solve(Game([0, 1], [1, 2], [[0, 1], [0, 1]]))
        self.assertEqual((solution.winners, solution.choices), ((0, 0), (1, -1)))

    def test_one_position(self):
        for owner in (0, 1):
            for priority in range(4):
                solution = self.check(Game([owner], [priority], [[0]]))
                self.assertEqual(solution.winners, (priority % 2,))
                self.assertEqual(solution.choices, (0,) if owner == priority % 2 else (-1,))

    def test_both_players_win_somewhere(self):
        solution = self.check(Game([0, 1, 0, 1], [2, 1, 0, 3], [[0, 1], [0, 3], [1], [3]]))
        self.assertEqual(solution.winners, (0, 1, 1, 1))
        self.assertEqual(solution.choices, (0, 3, -1, 3))

    def test_great_priorities(self):
        great = 10 ** 40
        solution = self.check(Game([1, 1, 0], [great, great + 1, great + 2], [[0, 1], [1, 2], [1, 2]]))
        self.assertEqual(solution.winners, (1, 1, 0))

    def test_all_games_with_two_positions(self):
        rows = ([0], [1], [0, 1])
        for owners in ([0, 0], [0, 1], [1, 0], [1, 1]):
            for first in range(4):
                for second in range(4):
                    for one in rows:
                        for other in rows:
                            game = Game(owners, [first, second], [one, other])
                            self.assertEqual(list(self.check(game).winners), slow_winners(game))

    def test_random_games_against_all_choices(self):
        chooser = generator(62)
        for _ in range(300):
            game = random_game(chooser, chooser.randint(1, 6), chooser.choice((1, 2, 4, 9)), 3)
            solution = self.check(game)
            self.assertEqual(list(solution.winners), slow_winners(game))
            for position, winner in enumerate(solution.winners):
                self.assertTrue(slow_choices_win(game, winner, solution.choices, position))

    def test_larger_random_games(self):
        # Choices that win from everywhere show that the winners are right.
        chooser = generator(63)
        for _ in range(150):
            self.check(random_game(chooser, chooser.randint(7, 40), chooser.choice((2, 5, 40)), chooser.randint(2, 5)))

    def test_neighbours(self):
        chooser = generator(64)
        for _ in range(60):
            count = chooser.randint(10, 40)
            moves = [sorted({(place + chooser.randint(-2, 2)) % count for _ in range(3)}) for place in range(count)]
            self.check(Game([chooser.randrange(2) for _ in range(count)],
                            [chooser.randint(0, count) for _ in range(count)], moves))

    def test_many_positions(self):
        count = 2000
        chooser = generator(65)
        game = random_game(chooser, count, 8, 4)
        solution = solve(game)
        for player in (0, 1):
            if player in solution.winners:
                self.assertTrue(choices_win(game, player, list(solution.choices), solution.winners.index(player)))

    def test_one_long_cycle(self):
        count = 3000
        game = Game([place % 2 for place in range(count)], list(range(count)),
                    [[(place + 1) % count] for place in range(count)])
        self.assertEqual(solve(game).winners, (1,) * count)

    def test_all_moves(self):
        count = 60
        game = Game([place % 2 for place in range(count)], list(range(count)),
                    [[target for target in range(count) if target != place] for place in range(count)])
        self.check(game)


if __name__ == "__main__":
    unittest.main()
