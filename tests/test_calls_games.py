"""The calls score and game."""

import random
import unittest

import helper
from helper import DIES, FAR, LOOKS, PANEL, STAYS, WORLD, ask, begin, breed, first, game, last, new, panel, ready, scored

WRONG_PROGRAMS = ([], [0], [0, 0], [0] * 4, [0] * 5, [0] * 15, [0] * 30, [8, 0, 0], [-1, 0, 0], [0, 16, 0], [0, -1, 0],
                  [0, 0, 16], [0, 0, -1], [FAR, 0, 0], [0, -FAR, 0], [0, 0, 0, 0, 0, 16], [3, 0, 0] * 3 + [3, 0, FAR])
BEHIND = ready() + [first(STAYS), begin(size=6), breed(2)]


class ScoreTest(unittest.TestCase):
    def test_by_hand(self):
        line = [new(n=8, d=2, longest=2, rounds=3, q=1), panel(DIES), panel(STAYS)]
        self.assertEqual(last(*line, scored(STAYS)), [6, 4, 2])
        self.assertEqual(last(*line, scored(DIES)), [2, 2, 0])
        more = [new(n=8, d=2, longest=2, rounds=3, q=4), panel(DIES), panel(STAYS), panel(DIES), panel(STAYS)]
        self.assertEqual(last(*more, scored(STAYS)), [48, 16, 8, 16, 8])

    def test_without_a_panel(self):
        self.assertEqual(last(new(), scored(STAYS)), [0])

    def test_it_is_that_of_the_second_telling(self):
        source = random.Random(17)
        for time in range(200):
            program = [source.randrange(bound) for cell in range(source.randint(1, 4)) for bound in (8, 16, 16)]
            row = helper.points(WORLD, PANEL, program)
            self.assertEqual(last(*ready(), scored(program)), [sum(row)] + row)

    def test_it_is_that_of_first_and_one(self):
        for program in (STAYS, DIES, [5, 3, 0, 1, 0, 4], [1, 0, 1], [2, 3, 3, 7, 1, 5, 3, 14, 0]):
            told = ask(*ready(), first(program), scored(program), begin(), helper.one(0), scored(program))
            self.assertEqual({told[at][0] for at in (-5, -4, -2, -1)}, {told[-5][0]})

    def test_least_and_greatest_programs(self):
        for program in (DIES, [7, 15, 15], [7, 0, 15] * 4):
            self.assertEqual(len(last(*ready(), scored(program))), 4, program)

    def test_wrong_programs(self):
        for program in WRONG_PROGRAMS:
            self.assertEqual(last(*ready(), scored(program)), [-1], program)
            self.assertEqual(last(*BEHIND, scored(program)), [-1], program)

    def test_without_a_world(self):
        for program in (STAYS, [], [9, 9, 9]):
            self.assertEqual(ask(scored(program)), [[-2]])
            self.assertEqual(ask(new(n=7), scored(program)), [[-1], [-2]])

    def test_before_and_behind_begin_and_a_second_new(self):
        program = [5, 3, 0, 1, 0, 4]
        row = helper.points(WORLD, PANEL, program)
        self.assertEqual(last(*ready(), scored(program)), [sum(row)] + row)
        self.assertEqual(last(*BEHIND, scored(program)), [sum(row)] + row)
        self.assertEqual(last(*BEHIND, new(), scored(program)), [0])
        self.assertEqual(last(*BEHIND, new(), panel(DIES), scored(STAYS)), [8, 8])
        self.assertEqual(last(*BEHIND, new(d=1, longest=1), scored(program)), [-1])

    def test_it_changes_nothing(self):
        for program in (STAYS, [5, 3, 0], [], [8, 0, 0]):
            self.assertEqual(ask(*BEHIND, scored(program), breed(1), *LOOKS)[-11:], ask(*BEHIND, breed(1), *LOOKS)[-11:])
            self.assertEqual(last(*ready(), scored(program), panel(STAYS)), [4])
            self.assertEqual(last(*ready(), scored(program), helper.counts()), [0, 3, 0, 0, 0])


class GameTest(unittest.TestCase):
    def check(self, program, other, result, turns, mine, theirs, s=4, turn=0, **world):
        expected = [result, 1, turns, len(mine)] + mine + [len(theirs)] + theirs
        self.assertEqual(last(new(**world), game(s, turn, program, other)), expected)

    def test_die(self):
        self.check(DIES, STAYS, 2, 1, [], [4])
        self.check([0, 3, 3, 3, 0, 0], STAYS, 2, 1, [], [4])

    def test_copy(self):
        self.check([1, 0, 1], STAYS, 0, 20, [10], [11])
        self.check([1, 2, 4, 3, 0, 0], STAYS, 1, 2, [1], [])

    def test_add(self):
        # The other goes to and fro between 4 and 5, but stays at 4 where the number b of cell 5 isn't 0.
        self.check(STAYS, [4, 0, 1, 3, 15, 0], 0, 18, [0], [5], rounds=9)
        self.check([2, 1, 5, 3, 0, 3], [4, 0, 1, 3, 15, 0], 0, 18, [1], [4], rounds=9)
        self.check(STAYS, [4, 0, 1, 3, 15, 13], 0, 18, [0], [4], rounds=9)
        self.check([2, 1, 5, 3, 0, 2], [4, 0, 1, 3, 15, 13], 0, 18, [1], [4], rounds=9)
        self.check([2, 1, 5, 3, 0, 3], [4, 0, 1, 3, 15, 13], 0, 18, [1], [5], rounds=9)

    def test_go(self):
        self.check(STAYS, STAYS, 0, 20, [0], [4])
        self.check([3, 2, 0, 0, 0, 0, 3, 15, 0], STAYS, 2, 5, [], [4])
        self.check([3, 12, 0], [3, 1, 0, 3, 15, 0], 2, 3, [], [5])

    def test_go_if(self):
        self.check([4, 2, 1, 3, 0, 5, 3, 0, 0], STAYS, 0, 20, [2], [4])
        self.check([4, 2, 1, 3, 0, 0, 3, 0, 0], STAYS, 0, 20, [1], [4])

    def test_fork_with_one_hand_free_and_with_none(self):
        forks = [5, 2, 0, 3, 15, 0, 3, 0, 0]
        self.check(forks, STAYS, 0, 2, [1, 2], [4], rounds=1)
        self.check(forks, STAYS, 0, 6, [0, 2], [4], rounds=3)
        self.check(forks, STAYS, 0, 8, [2, 1], [4], rounds=4)
        self.check(forks, STAYS, 0, 8, [2, 1, 2], [4], rounds=4, hands=3)
        self.check(forks, STAYS, 0, 2, [1], [4], rounds=1, hands=1)
        self.check(STAYS, forks, 0, 2, [0], [5, 6], rounds=1)
        self.check(STAYS, forks, 0, 2, [0], [5], rounds=1, hands=1)

    def test_fork_up_to_four_hands(self):
        forks = [5, 0, 0, 3, 0, 0]
        self.check(forks, STAYS, 0, 10, [0, 1, 1], [4], rounds=5, hands=4)
        self.check(forks, STAYS, 0, 12, [1, 1, 1, 0], [4], rounds=6, hands=4)
        self.check(forks, STAYS, 0, 18, [0, 1, 1, 1], [4], rounds=9, hands=4)
        self.check(forks, STAYS, 0, 20, [1, 1, 1, 1], [4], rounds=10, hands=4)

    def test_set(self):
        self.check([6, 5, 7, 3, 0, 0], [4, 0, 1, 3, 15, 0], 0, 18, [1], [4], rounds=9)
        self.check([6, 5, 0, 3, 0, 0], [4, 0, 1, 3, 15, 13], 0, 18, [1], [5], rounds=9)

    def test_swap(self):
        swaps = [7, 2, 5, 3, 1, 0, 3, 0, 0]
        self.check(swaps, [3, 1, 0, 3, 15, 0], 0, 18, [1], [5], rounds=9)
        self.check(swaps, [3, 1, 0, 3, 15, 0], 0, 20, [2], [5])
        self.check([7, 2, 4, 3, 0, 0], STAYS, 1, 2, [1], [])

    def test_the_three_results_with_both_first_turns(self):
        self.check(STAYS, STAYS, 0, 20, [0], [4], turn=0)
        self.check(STAYS, STAYS, 0, 20, [0], [4], turn=1)
        self.check(STAYS, DIES, 1, 2, [0], [], turn=0)
        self.check(STAYS, DIES, 1, 1, [0], [], turn=1)
        self.check(DIES, STAYS, 2, 1, [], [4], turn=0)
        self.check(DIES, STAYS, 2, 2, [], [4], turn=1)
        self.check(DIES, DIES, 2, 1, [], [4], turn=0)
        self.check(DIES, DIES, 1, 1, [0], [], turn=1)

    def test_the_turns_run_out(self):
        self.check(STAYS, STAYS, 0, 2, [0], [4], rounds=1)
        self.check(STAYS, STAYS, 0, 80, [0], [4], rounds=40)
        self.check([3, 1, 0], STAYS, 0, 2, [1], [4], rounds=1)

    def test_it_ends_in_the_very_last_turn(self):
        self.check(STAYS, [3, 1, 0], 0, 2, [0], [5], rounds=1)
        self.check(STAYS, [3, 1, 0], 1, 4, [0], [], rounds=2)

    def test_a_fighter_lives_as_long_as_one_hand_is_left(self):
        self.check([5, 3, 0, 3, 0, 0], STAYS, 0, 20, [1], [4])
        self.check([5, 3, 0], STAYS, 2, 5, [], [4])

    def test_least_and_greatest_start(self):
        self.check(STAYS, STAYS, 0, 20, [0], [4], s=4)
        self.check(STAYS, STAYS, 0, 20, [0], [12], s=12)
        self.check(STAYS, [3, 1, 0] * 4, 0, 20, [0], [0], s=12)
        self.check(STAYS, STAYS, 0, 20, [0], [4], s=4, n=8)
        self.check(STAYS, STAYS, 0, 20, [0], [1], s=1, d=1, longest=1, n=32)
        self.check(STAYS, STAYS, 0, 20, [0], [31], s=31, d=1, longest=1, n=32)

    def test_any_start_not_those_played_alone(self):
        for s in range(4, 13):
            self.check(STAYS, STAYS, 0, 20, [0], [s], s=s, q=1)

    def test_wrong_numbers(self):
        for s in (3, 13, 0, -4, 20, FAR, -FAR):
            self.assertEqual(last(new(), game(s, 0, STAYS, STAYS)), [-1], s)
        for s in (3, 5):
            self.assertEqual(last(new(n=8), game(s, 0, STAYS, STAYS)), [-1], s)
        for turn in (-1, 2, FAR, -FAR):
            self.assertEqual(last(new(), game(4, turn, STAYS, STAYS)), [-1], turn)

    def test_wrong_programs(self):
        for program in WRONG_PROGRAMS:
            self.assertEqual(last(new(), game(4, 0, program, STAYS)), [-1], program)
            self.assertEqual(last(new(), game(4, 0, STAYS, program)), [-1], program)
            self.assertEqual(last(new(), game(3, 2, program, program)), [-1], program)

    def test_without_a_world(self):
        for call in (game(4, 0, STAYS, STAYS), game(FAR, 7, [], [9]), game(4, 1, [], STAYS)):
            self.assertEqual(ask(call), [[-2]])
            self.assertEqual(ask(new(n=7), call), [[-1], [-2]])

    def test_before_and_behind_begin_and_a_second_new(self):
        call = game(4, 0, [5, 3, 0, 3, 0, 0], STAYS)
        expected = [0, 1, 20, 1, 1, 1, 4]
        for line in ([new()], ready(), ready() + [first(STAYS)], BEHIND, BEHIND + [new()]):
            self.assertEqual(last(*line, call), expected)
        self.assertEqual(last(*BEHIND, new(rounds=1), call), [0, 1, 2, 2, 1, 3, 1, 4])
        self.assertEqual(last(*BEHIND, new(d=5), call), [-1])
        self.assertEqual(last(*BEHIND, new(n=7), call), expected)

    def test_it_changes_nothing(self):
        for call in (game(4, 0, STAYS, DIES), game(12, 1, [1, 0, 1], STAYS), game(3, 0, STAYS, DIES), game(4, 0, [], [])):
            self.assertEqual(ask(*BEHIND, call, breed(1), *LOOKS)[-11:], ask(*BEHIND, breed(1), *LOOKS)[-11:])
            self.assertEqual(ask(*ready(), call, call)[-2], ask(*ready(), call, call)[-1])

    def test_scores_are_made_of_games(self):
        source = random.Random(23)
        for time in range(40):
            program = [source.randrange(bound) for cell in range(source.randint(1, 4)) for bound in (8, 16, 16)]
            starts = last(new(q=3))[1:]
            line = [new(q=3)] + [panel(other) for other in PANEL] + [scored(program)]
            games = [game(s, turn, program, other) for other in PANEL for s in starts for turn in (0, 1)]
            results = [answer[0] for answer in ask(*line, *games)[-len(games):]]
            row = [sum((1, 2, 0)[result] for result in results[at:at + 6]) for at in (0, 6, 12)]
            self.assertEqual(last(*line), [sum(row)] + row)


if __name__ == "__main__":
    unittest.main()
