import random
import unittest

import helper
from fighterbreeding.games import how_many_starts, points_against, points_against_each, result_of_ring, ring_before
from fighterbreeding.games import ring_behind, score_of, starts_played, turns_done
from fighterbreeding.machine import Ring
from fighterbreeding.programs import World, cells_of_row, is_program_row, row_of_cells


def world_of(numbers):
    return World(*numbers)


class StartsTest(unittest.TestCase):
    def test_how_many_and_which(self):
        for numbers, many, starts in (
                ((8, 1, 1, 4, 1, 4), 1, [4]),
                ((8, 1, 1, 1, 1, 1), 7, [1]),
                ((8, 1, 1, 3, 1, 4), 3, [3, 4, 5]),
                ((32, 1, 1, 1, 1, 4), 31, [1, 8, 16, 24]),
                ((16, 1, 1, 4, 1, 3), 9, [4, 7, 10]),
                ((9, 1, 1, 3, 1, 3), 4, [3, 4, 5])):
            world = world_of(numbers)
            self.assertEqual((how_many_starts(world), starts_played(world)), (many, starts))


class GamesTest(unittest.TestCase):
    def test_how_a_game_stands_before_its_first_turn(self):
        ring = ring_before(world_of((8, 3, 5, 2, 2, 1)), [(1, 2, 3)], [(4, 5, 6), (7, 0, 1)], 6, 1)
        self.assertEqual(ring.cells, [(1, 2, 3)] + [(0, 0, 0)] * 5 + [(4, 5, 6), (7, 0, 1)])
        self.assertEqual((ring.hands, ring.turn, ring.left, ring.most), ([[0], [6]], 1, 10, 3))

    def test_results(self):
        for hands, result in (([[1], [2]], 0), ([[1], []], 1), ([[], [2]], 2)):
            self.assertEqual(result_of_ring(Ring([], hands, 0, 0, 1)), result)

    def test_points_by_hand(self):
        world = world_of((8, 2, 3, 2, 2, 1))
        dies, stays = [(0, 0, 0)], [(3, 0, 0)]
        self.assertEqual(points_against(world, dies, dies), 2)
        self.assertEqual(points_against(world, stays, dies), 4)
        self.assertEqual(points_against(world, stays, stays), 2)
        self.assertEqual(points_against(world, dies, stays), 0)
        self.assertEqual(points_against(world_of((8, 2, 3, 2, 2, 4)), stays, dies), 16)

    def test_rounds_count_for_each_fighter(self):
        walks, stays = [(3, 1, 0)], [(3, 0, 0)]
        self.assertEqual(points_against(world_of((8, 2, 1, 2, 2, 1)), walks, stays), 2)
        self.assertEqual(points_against(world_of((8, 2, 2, 2, 2, 1)), walks, stays), 0)

    def test_the_score_is_that_against_all_of_the_panel(self):
        world = world_of((8, 2, 3, 2, 2, 1))
        dies, stays = [(0, 0, 0)], [(3, 0, 0)]
        self.assertEqual(points_against_each(world, [dies, stays, dies], stays), [4, 2, 4])
        self.assertEqual(score_of(world, [dies, stays, dies], stays), 10)
        self.assertEqual(score_of(world, [], stays), 0)

    def test_games_are_those_of_the_second_telling(self):
        source = random.Random(11)
        for time in range(1500):
            d = source.randint(1, 8)
            n = source.randint(max(8, 2 * d), 32)
            longest = source.randint(1, d)
            numbers = (n, source.randint(1, 4), source.randint(1, 40), d, longest, source.randint(1, 4))
            mine, other = [random_row(source, n, longest) for which in range(2)]
            start, turn = source.randint(d, n - d), source.randint(0, 1)
            world = world_of(numbers)
            ring = ring_behind(world, cells_of_row(mine), cells_of_row(other), start, turn)
            hands, done = helper.play(numbers, mine, other, start, turn)
            self.assertEqual((ring.hands, turns_done(world, ring)), (list(hands), done), (numbers, mine, other))


def random_row(source, n, longest):
    row = []
    for cell in range(source.randint(1, longest)):
        row += [source.choice((0, 1, 1, 2, 2, 3, 4, 4, 5, 5, 6, 6, 7, 7)), source.randrange(n), source.randrange(n)]
    return row


class ProgramsTest(unittest.TestCase):
    def test_rows_and_cells(self):
        self.assertEqual(cells_of_row([1, 2, 3, 4, 5, 6]), [(1, 2, 3), (4, 5, 6)])
        self.assertEqual(row_of_cells([(1, 2, 3), (4, 5, 6)]), [1, 2, 3, 4, 5, 6])

    def test_what_is_a_program(self):
        world = world_of((8, 2, 3, 2, 2, 1))
        for row in ([0, 0, 0], [7, 7, 7], [7, 0, 0, 0, 0, 7]):
            self.assertTrue(is_program_row(world, row), row)
        for row in ([], [0], [0, 0], [0, 0, 0, 0], [0, 0, 0, 0, 0], [0] * 9, [0] * 30, [8, 0, 0], [0, 8, 0],
                    [0, 0, 8], [-1, 0, 0], [0, -1, 0], [0, 0, -1], [0, 0, 0, 0, 8, 0], [helper.FAR, 0, 0],
                    [0, -helper.FAR, 0]):
            self.assertFalse(is_program_row(world, row), row)


if __name__ == "__main__":
    unittest.main()
