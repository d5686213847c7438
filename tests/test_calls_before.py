"""The calls that make ready: new, panel, first, begin."""

import unittest

import helper
from helper import DIES, FAR, STAYS, ask, begin, breed, common, first, last, living, new, one, panel, ready, tree


class NewTest(unittest.TestCase):
    def test_ordinary(self):
        self.assertEqual(ask(new()), [[9, 4, 8]])
        self.assertEqual(ask(new(q=4)), [[9, 4, 6, 8, 10]])
        self.assertEqual(ask(new(n=8, d=4, q=4)), [[1, 4]])

    def test_least_and_greatest_of_each_range(self):
        for world in (new(n=8), new(n=32), new(hands=1), new(hands=4), new(rounds=1), new(rounds=40),
                      new(d=1, longest=1), new(d=8), new(n=8, d=4), new(n=15, d=7), new(longest=1), new(longest=4),
                      new(d=8, longest=8), new(q=1), new(q=4)):
            self.assertGreater(last(world)[0], 0, world)

    def test_one_beyond_each_range(self):
        for world in (new(n=7, d=3, longest=1), new(n=33), new(hands=0), new(hands=5), new(rounds=0),
                      new(rounds=41), new(d=0, longest=0), new(d=0, longest=1), new(n=32, d=9), new(n=9, d=5),
                      new(n=15, d=8), new(longest=0), new(longest=5), new(n=32, d=8, longest=9), new(q=0), new(q=5)):
            self.assertEqual(last(world), [-1], world)

    def test_far_beyond_each_range(self):
        for name in ("n", "hands", "rounds", "d", "longest", "q"):
            for number in (-FAR, -1, FAR):
                self.assertEqual(last(new(**{name: number})), [-1], name)

    def test_all_is_new(self):
        line = ready() + [first(STAYS), begin(), breed(1), new()]
        self.assertEqual(last(*line, living(0)), [-6])
        self.assertEqual(last(*line, one(0)), [-6])
        self.assertEqual(last(*line, breed(1)), [-4])
        self.assertEqual(last(*line, begin()), [-4])
        self.assertEqual(last(*line, panel(DIES)), [1])
        self.assertEqual(last(*line, first(DIES)), [0, 0])
        again = ready() + [first(STAYS), begin(), breed(1), living(0), living(1)]
        self.assertEqual(ask(*(line[:-1] + again))[-5:], ask(*again)[-5:])

    def test_a_refusal_keeps_the_world_that_was(self):
        line = ready() + [first(STAYS), begin(), breed(1)]
        self.assertEqual(last(*line, new(n=7), living(0)), last(*line, living(0)))
        self.assertEqual(last(*line, new(n=7), breed(2)), last(*line, breed(2)))


class NoWorldTest(unittest.TestCase):
    def test_all_but_new_are_refused(self):
        for call in (panel(DIES), first(DIES), begin(), breed(1), living(0), one(0), tree(0), common(0, 0)):
            self.assertEqual(ask(call), [[-2]])
            self.assertEqual(ask(new(n=7), call), [[-1], [-2]])

    def test_it_is_looked_for_first(self):
        for call in (panel([]), first([9]), begin(seed=0), breed(0), living(-1), one(-1), tree(5), common(0, 9)):
            self.assertEqual(ask(call), [[-2]])

    def test_nothing_stays_of_what_was_refused(self):
        self.assertEqual(ask(panel(DIES), first(DIES), new(), panel(DIES), first(STAYS)),
                         [[-2], [-2], [9, 4, 8], [1], [8, 0]])


WRONG_PROGRAMS = ([], [0], [0, 0], [0, 0, 0, 0], [0] * 15, [0] * 30, [8, 0, 0], [-1, 0, 0], [0, 16, 0], [0, -1, 0],
                  [0, 0, 16], [0, 0, -1], [FAR, 0, 0], [0, -FAR, 0], [0, 0, 0, 0, 0, 16])
RIGHT_PROGRAMS = ([0, 0, 0], [7, 15, 15], [7, 0, 15] * 4)


class PanelTest(unittest.TestCase):
    def test_one_to_four(self):
        self.assertEqual(ask(*ready([DIES, STAYS, DIES, [7, 15, 15] * 4]))[1:], [[1], [2], [3], [4]])

    def test_a_fifth(self):
        line = ready([DIES, STAYS, DIES, DIES])
        self.assertEqual(last(*line, panel(DIES)), [-5])
        self.assertEqual(last(*line, panel([8, 0, 0])), [-1])
        self.assertEqual(ask(*line, panel(STAYS), first(STAYS))[-1], last(*line, first(STAYS)))

    def test_programs(self):
        for program in RIGHT_PROGRAMS:
            self.assertEqual(last(new(), panel(program)), [1], program)
        for program in WRONG_PROGRAMS:
            self.assertEqual(ask(new(), panel(program), panel(DIES))[1:], [[-1], [1]], program)

    def test_programs_of_this_world(self):
        world = new(n=8, d=1, longest=1)
        self.assertEqual(last(world, panel([7, 7, 7])), [1])
        self.assertEqual(last(world, panel([7, 8, 7])), [-1])
        self.assertEqual(last(world, panel([7, 7, 7] * 2)), [-1])

    def test_behind_first_or_begin(self):
        for call in (first(STAYS), begin()):
            line = [new(), panel(DIES), call]
            self.assertEqual(last(*line, panel(DIES)), [-3])
            self.assertEqual(last(*line, panel([8, 0, 0])), [-3])
        full = ready([DIES] * 4) + [begin()]
        self.assertEqual(last(*full, panel(DIES)), [-3])
        self.assertEqual(last(new(), first(DIES), panel(DIES)), [-3])

    def test_behind_a_first_that_was_refused(self):
        self.assertEqual(last(new(), first([]), panel(DIES)), [1])


class FirstTest(unittest.TestCase):
    def test_score_and_number(self):
        line = [new(n=8, d=2, longest=2, rounds=3, q=1), panel(DIES), panel(STAYS)]
        self.assertEqual(ask(*line, first(DIES), first(STAYS), first(DIES))[-3:], [[2, 0], [6, 1], [2, 2]])

    def test_without_a_panel_nothing_is_scored(self):
        self.assertEqual(last(new(), first(STAYS)), [0, 0])

    def test_scores_are_those_of_the_second_telling(self):
        for program in ([0, 0, 0], [5, 3, 0, 1, 0, 4], [1, 0, 1], [2, 3, 3, 7, 1, 5, 3, 14, 0], [5, 0, 0, 6, 6, 9]):
            expected = helper.score(helper.WORLD, helper.PANEL, program)
            self.assertEqual(last(*ready(), first(program)), [expected, 0])

    def test_programs(self):
        for program in RIGHT_PROGRAMS:
            self.assertEqual(len(last(*ready(), first(program))), 2, program)
        for program in WRONG_PROGRAMS:
            self.assertEqual(last(*ready(), first(program)), [-1], program)
            self.assertEqual(last(*ready(), first(program), one(0)), [-6], program)

    def test_ten_and_an_eleventh(self):
        line = ready() + [first(STAYS)] * 10
        self.assertEqual(last(*line)[1], 9)
        self.assertEqual(last(*line, first(STAYS)), [-5])
        self.assertEqual(last(*line, first([])), [-1])
        self.assertEqual(last(*line, first(STAYS), one(10)), [-6])

    def test_behind_begin(self):
        line = ready() + [begin()]
        self.assertEqual(last(*line, first(STAYS)), [-3])
        self.assertEqual(last(*line, first([])), [-3])
        full = ready() + [first(STAYS)] * 10 + [begin(size=10)]
        self.assertEqual(last(*full, first(STAYS)), [-3])
        self.assertEqual(last(*line, first(STAYS), breed(3)), last(*line, breed(3)))


class BeginTest(unittest.TestCase):
    def test_ordinary(self):
        answer = last(*ready(), begin(islands=3, size=5))
        told = helper.Told(helper.WORLD, helper.PANEL, [], 1, 3, 5, 1, 2, 2, helper.WEIGHTS)
        self.assertEqual(answer, [15] + told.bests())

    def test_the_first_drawn_by_hand(self):
        # Behind 1 come 48271, 182605794, 1291394886, 1914720637, ..: below 4, 8, 16, 16.
        answer = last(*ready(), begin(), one(0))
        length = 1 + 48270 % 4
        cells = helper.rows_of(answer)[0]
        self.assertEqual(len(cells), 3 * length)
        self.assertEqual(cells[:3], [182605793 % 8, 1291394885 % 16, 1914720636 % 16])

    def test_least_and_greatest_of_each_range(self):
        for call in (begin(seed=1), begin(seed=2147483646), begin(islands=1), begin(islands=3), begin(size=2),
                     begin(size=10), begin(elite=0), begin(elite=3), begin(size=10, elite=9), begin(pick=1),
                     begin(pick=4), begin(every=0), begin(every=10), begin(weights=(0, 0, 0, 0, 1)),
                     begin(weights=(1, 0, 0, 0, 0)), begin(weights=(9, 9, 9, 9, 9))):
            self.assertEqual(last(*ready(), call)[0], call[2] * call[3], call)

    def test_one_beyond_each_range(self):
        for call in WRONG_BEGINNINGS:
            self.assertEqual(last(*ready(), call), [-1], call)
            self.assertEqual(last(*ready(), call, living(0)), [-6], call)

    def test_far_beyond_each_range(self):
        for name in ("seed", "islands", "size", "elite", "pick", "every"):
            for number in (-FAR, FAR):
                self.assertEqual(last(*ready(), begin(**{name: number})), [-1], name)

    def test_begun_is_looked_for_before_all_else(self):
        line = ready() + [begin()]
        self.assertEqual(last(*line, begin()), [-3])
        self.assertEqual(last(*line, begin(seed=0)), [-3])
        told = ready() + [first(STAYS)] * 3 + [begin()]
        self.assertEqual(last(*told, begin(size=2)), [-3])
        self.assertEqual(last(*line, begin(seed=5, size=9), breed(3)), last(*line, breed(3)))

    def test_without_a_panel(self):
        self.assertEqual(last(new(), begin()), [-4])
        self.assertEqual(last(new(), begin(seed=0)), [-1])
        self.assertEqual(last(new(), first(STAYS), first(STAYS), first(STAYS), begin(size=2)), [-4])
        self.assertEqual(ask(new(), begin(), panel(DIES), begin())[2], [1])
        self.assertEqual(ask(new(), begin(), panel(DIES), begin())[3][0], 8)

    def test_more_told_than_size(self):
        line = ready() + [first(STAYS)] * 4
        self.assertEqual(last(*line, begin(size=3)), [-5])
        self.assertEqual(last(*line, begin(size=3, elite=3)), [-1])
        self.assertEqual(last(*line, begin(size=4))[0], 8)
        self.assertEqual(ask(*line, begin(size=3), begin(size=5))[-1], last(*line, begin(size=5)))

    def test_refusals_change_nothing(self):
        line = ready() + [first(STAYS)]
        behind = [begin(), breed(3), living(0), living(1), one(7)]
        for wrong in (WRONG_BEGINNINGS[0], WRONG_BEGINNINGS[-1]):
            self.assertEqual(ask(*line, wrong, *behind)[-5:], ask(*line, *behind)[-5:])

    def test_told_ones_are_the_first_of_island_0(self):
        programs = [STAYS, DIES, [5, 3, 0]]
        line = ready() + [first(program) for program in programs] + [begin(islands=3, size=4)]
        found = [helper.rows_of(last(*line, living(i)))[0] for i in range(3)]
        self.assertEqual([sorted(row) for row in found], [[0, 1, 2, 3], [4, 5, 6, 7], [8, 9, 10, 11]])
        for number, program in enumerate(programs):
            self.assertEqual(helper.rows_of(last(*line, one(number))), [program, [0], [], [9]])
        self.assertEqual(helper.rows_of(last(*line, one(3)))[3][0], 0)

    def test_told_ones_take_no_draws(self):
        bare = helper.rows_of(last(*ready(), begin(seed=77), one(0)))
        told = helper.rows_of(last(*ready(), first(STAYS), begin(seed=77), one(1)))
        self.assertEqual(bare, told)


WRONG_BEGINNINGS = (
    begin(seed=0), begin(seed=-1), begin(seed=2147483647), begin(islands=0), begin(islands=4), begin(size=1, elite=0),
    begin(size=11), begin(elite=-1), begin(elite=4), begin(size=10, elite=10), begin(pick=0), begin(pick=5),
    begin(every=-1), begin(every=11), begin(weights=()), begin(weights=(1, 1, 1, 1)), begin(weights=(1,) * 6),
    begin(weights=(1,) * 30), begin(weights=(0, 0, 0, 0, 0)), begin(weights=(10, 1, 1, 1, 1)),
    begin(weights=(1, 1, 1, 1, 10)), begin(weights=(1, 1, -1, 1, 1)), begin(weights=(FAR, 1, 1, 1, 1)))


if __name__ == "__main__":
    unittest.main()
