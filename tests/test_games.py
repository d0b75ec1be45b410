"""Points 24 to 26 and the interface of reactivesynth/games.py."""

import unittest

from reactivesynth.errors import InvalidGame, InvalidPosition
from reactivesynth.games import Game, choices_win, distances
from tests.oracles import slow_choices_win, slow_distances
from tests.samples import game_parts, generator, random_game


class GameTest(unittest.TestCase):
    def test_attributes(self):
        game = Game([0, 1], [3, 0], [[0, 1], [0]])
        self.assertEqual(game_parts(game), ((0, 1), (3, 0), ((0, 1), (0,))))
        for value in (game.owners, game.priorities, game.moves, game.moves[0]):
            self.assertIs(type(value), tuple)

    def test_later_changes_have_no_effect(self):
        owners, priorities, moves = [0, 1], [3, 0], [[0, 1], [0]]
        game = Game(owners, priorities, moves)
        owners[0] = 1
        priorities.append(4)
        moves[1][0] = 1
        moves[0].append(7)
        moves.append([0])
        self.assertEqual(game_parts(game), ((0, 1), (3, 0), ((0, 1), (0,))))

    def test_one_position(self):
        self.assertEqual(game_parts(Game([1], [0], [[0]])), ((1,), (0,), ((0,),)))

    def test_wrong_games(self):
        for name, arguments in (
                ("no position", ([], [], [])),
                ("no moves but the rest", ([0], [0], [])),
                ("no owners", ([], [0], [[0]])),
                ("no priorities", ([0], [], [[0]])),
                ("too few owners", ([0], [0, 0], [[0], [0]])),
                ("too many owners", ([0, 0], [0], [[0]])),
                ("too few priorities", ([0, 0], [0], [[0], [0]])),
                ("too many priorities", ([0], [0, 0], [[0]])),
                ("too many moves", ([0], [0], [[0], [0]])),
                ("owner too large", ([0, 2], [0, 0], [[0], [0]])),
                ("owner negative", ([-1, 0], [0, 0], [[0], [0]])),
                ("negative priority", ([0, 0], [0, -1], [[0], [0]])),
                ("negative even priority", ([0, 0], [-2, 0], [[0], [0]])),
                ("no move", ([0, 0], [0, 0], [[0], []])),
                ("move too large", ([0, 0], [0, 0], [[0], [0, 2]])),
                ("move negative", ([0, 0], [0, 0], [[-1, 0], [0]])),
                ("move twice", ([0, 0], [0, 0], [[0], [1, 1]])),
                ("moves descend", ([0, 0], [0, 0], [[1, 0], [0]]))):
            with self.subTest(name):
                with self.assertRaises(InvalidGame):
                    Game(*arguments)


class DistancesTest(unittest.TestCase):
    def test_example(self):
        self.assertEqual(distances(Game([0, 1, 1], [0, 0, 0], [[1, 2], [2], [0, 2]]), 0, [2]), [1, 1, 0])

    def test_nearest_and_farthest_moves(self):
        # A way 5, 4, 3, 2, 1, 0, and two positions from which one can jump.
        moves = [[0], [0], [1], [2], [3], [4], [2, 4], [2, 4]]
        game = Game([0, 1, 0, 1, 0, 1, 0, 1], [0] * 8, moves)
        self.assertEqual(distances(game, 0, [0]), [0, 1, 2, 3, 4, 5, 3, 5])
        self.assertEqual(distances(game, 1, [0]), [0, 1, 2, 3, 4, 5, 5, 3])

    def test_what_cannot_be_forced(self):
        game = Game([0, 1, 0], [0, 0, 0], [[0, 1], [0, 2], [2]])
        self.assertEqual(distances(game, 0, [2]), [-1, -1, 0])
        self.assertEqual(distances(game, 1, [2]), [-1, 1, 0])
        self.assertEqual(distances(game, 0, [0]), [0, -1, -1])
        self.assertEqual(distances(game, 0, [0, 2]), [0, 1, 0])

    def test_a_target_keeps_distance_0(self):
        game = Game([1, 1], [0, 0], [[0, 1], [1]])
        self.assertEqual(distances(game, 0, [0]), [0, -1])

    def test_targets(self):
        game = Game([0, 1, 0], [0, 0, 0], [[1], [2], [0]])
        for player in (0, 1):
            self.assertEqual(distances(game, player, []), [-1, -1, -1])
            self.assertEqual(distances(game, player, [0, 1, 2]), [0, 0, 0])
            self.assertEqual(distances(game, player, [2, 0, 2]), [0, 1, 0])
            self.assertEqual(distances(game, player, [1, 1, 1]), [1, 0, 2])

    def test_the_list_stays(self):
        targets = [2, 0, 2]
        distances(Game([0, 1, 0], [0, 0, 0], [[1], [2], [0]]), 0, targets)
        self.assertEqual(targets, [2, 0, 2])

    def test_each_list_is_new(self):
        game = Game([0], [0], [[0]])
        first = distances(game, 0, [0])
        first[0] = 5
        self.assertEqual(distances(game, 0, [0]), [0])

    def test_wrong_targets(self):
        game = Game([0, 1], [0, 0], [[1], [0]])
        for targets in ([2], [-1], [0, 2], [1, 0, -2], [10 ** 20]):
            for player in (0, 1):
                with self.assertRaises(InvalidPosition):
                    distances(game, player, targets)

    def test_random_games(self):
        chooser = generator(60)
        for _ in range(400):
            count = chooser.randint(1, 8)
            game = random_game(chooser, count, 3, 3)
            targets = [chooser.randrange(count) for _ in range(chooser.randint(0, 3))]
            for player in (0, 1):
                self.assertEqual(distances(game, player, targets), slow_distances(game, player, targets))

    def test_long_way(self):
        count = 3000
        game = Game([0, 1] * (count // 2), [0] * count, [[0]] + [[at] for at in range(count - 1)])
        self.assertEqual(distances(game, 0, [0]), list(range(count)))


class ChoicesWinTest(unittest.TestCase):
    def test_some_positions(self):
        # Player 0 stays at 0 and goes on from 2 to 3, where the priority is odd.
        game = Game([0, 1, 0, 1], [2, 1, 0, 3], [[0, 1], [0], [0, 3], [3]])
        for choices, expected in (([0, -1, 0, -1], [True, True, True, False]),
                                  ([0, -1, 3, -1], [True, True, False, False]),
                                  ([1, -1, 0, -1], [True, True, True, False]),
                                  ([-1, -1, 0, -1], [False, False, False, False]),
                                  ([0, -1, -1, -1], [True, True, False, False])):
            with self.subTest(choices):
                self.assertEqual([choices_win(game, 0, choices, position) for position in range(4)], expected)

    def test_player_1(self):
        game = Game([1, 0], [1, 2], [[0, 1], [0]])
        self.assertIs(choices_win(game, 1, [0, -1], 0), True)
        self.assertIs(choices_win(game, 1, [0, -1], 1), True)
        self.assertIs(choices_win(game, 1, [1, -1], 0), False)

    def test_entries_of_the_other_player(self):
        game = Game([0, 1], [2, 1], [[0, 1], [0, 1]])
        for entry in (-1, 0, 1):
            self.assertIs(choices_win(game, 0, [0, entry], 0), True)
            self.assertIs(choices_win(game, 0, [0, entry], 1), False)
            self.assertIs(choices_win(game, 1, [entry, 1], 1), True)
            self.assertIs(choices_win(game, 1, [entry, 0], 1), False)

    def test_nothing_assigned(self):
        game = Game([0, 0, 1], [0, 0, 0], [[0, 1], [1], [0, 2]])
        self.assertIs(choices_win(game, 0, [0, -1, -1], 0), True)
        self.assertIs(choices_win(game, 0, [1, -1, -1], 0), False)
        self.assertIs(choices_win(game, 0, [-1, 1, -1], 0), False)
        self.assertIs(choices_win(game, 0, [-1, 1, -1], 1), True)
        self.assertIs(choices_win(game, 0, [0, -1, -1], 2), True)
        self.assertIs(choices_win(game, 0, [-1, 1, -1], 2), False)

    def test_great_priorities(self):
        great = 10 ** 40
        game = Game([1, 1, 1], [great, great + 1, great + 2], [[0, 1], [1, 2], [1]])
        self.assertIs(choices_win(game, 0, [-1, -1, -1], 0), False)
        self.assertIs(choices_win(game, 1, [0, 1, 1], 0), False)
        self.assertIs(choices_win(game, 1, [1, 1, 1], 0), True)
        self.assertIs(choices_win(game, 1, [1, 2, 1], 0), False)

    def test_a_lower_cycle_within_a_higher_one(self):
        # All cycles through 2 are even, but the other player can go round 0 and 1.
        game = Game([1, 1, 1], [0, 1, 2], [[1], [0, 2], [0]])
        self.assertIs(choices_win(game, 0, [-1, -1, -1], 2), False)
        game = Game([1, 1, 1], [0, 0, 2], [[1], [0, 2], [0]])
        self.assertIs(choices_win(game, 0, [-1, -1, -1], 2), True)

    def test_choices_stay(self):
        choices = [0, -1]
        choices_win(Game([0, 1], [2, 1], [[0, 1], [0, 1]]), 0, choices, 0)
        self.assertEqual(choices, [0, -1])

    def test_wrong_positions(self):
        game = Game([0, 1], [0, 0], [[1], [0]])
        for position in (-1, 2, 10 ** 20):
            for player in (0, 1):
                with self.assertRaises(InvalidPosition):
                    choices_win(game, player, [1, 0], position)

    def test_random_games(self):
        chooser = generator(61)
        for _ in range(400):
            count = chooser.randint(1, 6)
            game = random_game(chooser, count, chooser.choice((1, 3, 9)), 3)
            for player in (0, 1):
                choices = [chooser.choice(moves + (-1,) * chooser.randint(0, 1)) for moves in game.moves]
                for position in range(count):
                    self.assertIs(choices_win(game, player, choices, position),
                                  slow_choices_win(game, player, choices, position))

    def test_many_priorities(self):
        count = 2000
        game = Game([1] * count, [2 * position for position in range(count)],
                    [sorted({(position - 1) % count, position, (position + 1) % count}) for position in range(count)])
        self.assertIs(choices_win(game, 0, [-1] * count, 7), True)
        self.assertIs(choices_win(game, 1, list(range(count)), 7), False)


if __name__ == "__main__":
    unittest.main()
