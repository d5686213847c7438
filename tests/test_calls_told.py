"""The calls bests, unlike and counts."""

import unittest

import helper
from helper import DIES, LOOKS, STAYS, ask, begin, bests, breed, change, counts, draws, first, last, living, new, one
from helper import panel, ready, rows_of, scored, unlike

BEGUN = ready() + [first(STAYS), first([1, 0, 1]), begin(islands=3, size=4, elite=1, every=2)]


def told_over():
    return helper.Told(helper.WORLD, helper.PANEL, [STAYS, [1, 0, 1]], 1, 3, 4, 1, 2, 2, helper.WEIGHTS)


class NoWorldTest(unittest.TestCase):
    def test_without_a_world(self):
        for call in (bests(), unlike(), counts()):
            self.assertEqual(ask(call), [[-2]])
            self.assertEqual(ask(new(n=7), call), [[-1], [-2]])
            self.assertEqual(ask(draws(1, 1, 1), panel(DIES), begin(), call)[-1], [-2])

    def test_asking_changes_nothing(self):
        for call in (bests(), unlike(), counts()):
            line = BEGUN + [breed(1)]
            self.assertEqual(ask(*line, call, breed(1), *LOOKS)[-11:], ask(*line, breed(1), *LOOKS)[-11:])
            self.assertEqual(ask(*line, call, call)[-2], ask(*line, call, call)[-1])


class BestsTest(unittest.TestCase):
    def test_before_begin(self):
        for line in ([new()], ready(), ready() + [first(STAYS)], ready() + [begin(seed=0)], ready() + [breed(1)]):
            self.assertEqual(last(*line, bests()), [0])

    def test_the_beginning_stands_without_its_length(self):
        self.assertEqual(last(*BEGUN, bests()), [1] + told_over().bests())
        self.assertEqual(last(*BEGUN, bests())[1:], last(*BEGUN)[1:])

    def test_several_stand_each_with_its_length(self):
        told = told_over()
        rows = [told.bests()] + [told.breed() for generation in range(6)]
        self.assertEqual(last(*BEGUN, breed(6), bests()), [7] + [number for row in rows for number in [3] + row])
        for k in range(1, 6):
            answer = last(*BEGUN, breed(k), bests())
            self.assertEqual((answer[0], rows_of(answer)), (k + 1, rows[:k + 1]))

    def test_it_is_what_begin_and_breed_told(self):
        answers = ask(*BEGUN, breed(1), breed(3), breed(1), breed(2), bests())
        told = [answers[-6][1:], answers[-5][1:]] + rows_of(answers[-4]) + [answers[-3][1:]] + rows_of(answers[-2])
        self.assertEqual(answers[-1][0], 8)
        self.assertEqual(rows_of(answers[-1]), told)

    def test_it_is_what_lives_now(self):
        for k in (1, 2, 3, 4):
            found = ask(*BEGUN, breed(k), living(0), living(1), living(2), bests())
            self.assertEqual(rows_of(found[-1])[-1], [rows_of(answer)[1][0] for answer in found[-4:-1]])

    def test_what_is_refused_is_not_told(self):
        line = BEGUN + [breed(2)]
        for call in (breed(0), breed(11), begin(), first(STAYS), panel(DIES), new(n=7)):
            self.assertEqual(last(*line, call, bests()), last(*line, bests()))
        many = ready() + [begin(islands=3, size=10, elite=0)]
        self.assertEqual(last(*many, breed(10), bests()), last(*many, bests()))

    def test_behind_a_second_new(self):
        line = BEGUN + [breed(2), new()]
        self.assertEqual(last(*line, bests()), [0])
        again = BEGUN + [breed(1), bests()]
        self.assertEqual(last(*line, *again), last(*again))

    def test_many_generations_of_one_island(self):
        line = ready() + [begin(islands=1, size=2, elite=1)] + [breed(10)] * 6
        answer = last(*line, bests())
        self.assertEqual((answer[0], len(answer)), (61, 1 + 61 * 2))


class UnlikeTest(unittest.TestCase):
    def programs(self, line, islands):
        numbers = [number for i in range(islands) for number in rows_of(last(*line, living(i)))[0]]
        return numbers, [rows_of(answer)[0] for answer in ask(*line, *[one(i) for i in numbers])[-len(numbers):]]

    def check(self, line, islands):
        numbers, programs = self.programs(line, islands)
        many = len({tuple(program) for program in programs})
        self.assertEqual(last(*line, unlike()), [many] + [programs.count(program) for program in programs])
        return numbers

    def test_before_begin(self):
        for line in ([new()], ready(), ready() + [first(STAYS)] * 2, ready() + [begin(seed=0)]):
            self.assertEqual(last(*line, unlike()), [0])

    def test_by_hand(self):
        told = [DIES, STAYS, DIES, STAYS, STAYS, [3, 0, 1]]
        line = ready([DIES]) + [first(program) for program in told] + [begin(islands=1, size=6)]
        self.assertEqual(rows_of(last(*line, living(0)))[0], [1, 3, 4, 5, 0, 2])
        self.assertEqual(last(*line, unlike()), [3, 3, 3, 3, 1, 2, 2])

    def test_all_alike(self):
        line = ready() + [first(STAYS)] * 2 + [begin(islands=1, size=2)]
        self.assertEqual(last(*line, unlike()), [1, 2, 2])

    def test_all_unlike(self):
        line = ready() + [first(STAYS), first([3, 0, 1]), first(STAYS + STAYS), begin(islands=1, size=3)]
        self.assertEqual(last(*line, unlike()), [3, 1, 1, 1])

    def test_over_all_islands(self):
        world = [new(n=8, d=1, longest=1), panel(STAYS)]
        shared = 0
        for seed in range(1, 30):
            line = world + [begin(seed=seed, islands=3, size=10, every=0)]
            self.check(line, 3)
            numbers, programs = self.programs(line, 3)
            shared += any(program in programs[10:] for program in programs[:10])
        self.assertGreater(shared, 0)

    def test_who_lives_on_two_islands_is_counted_on_each(self):
        twice = 0
        for seed in range(1, 20):
            line = ready() + [begin(seed=seed, islands=3, size=4, elite=2, every=1), breed(1 + seed % 4)]
            numbers = self.check(line, 3)
            self.assertEqual(len(last(*line, unlike())), 1 + 12)
            twice += len(set(numbers)) < 12
        self.assertGreater(twice, 0)

    def test_behind_generations(self):
        for k in range(1, 6):
            self.check(BEGUN + [breed(k)], 3)
        line = ready() + [first(STAYS)] * 4 + [begin(islands=1, weights=(0, 0, 1, 0, 0)), breed(3)]
        self.assertEqual(last(*line, unlike()), [1, 4, 4, 4, 4])

    def test_behind_a_second_new(self):
        self.assertEqual(last(*BEGUN, breed(2), new(), unlike()), [0])
        again = ready() + [first(STAYS)] * 2 + [begin(islands=1, size=2), unlike()]
        self.assertEqual(last(*BEGUN, breed(2), *again), [1, 2, 2])


class CountsTest(unittest.TestCase):
    def test_before_begin(self):
        self.assertEqual(last(new(), counts()), [0, 0, 0, 0, 0])
        self.assertEqual(last(*ready(), counts()), [0, 3, 0, 0, 0])
        self.assertEqual(last(*ready(), first(STAYS), first(DIES), counts()), [0, 3, 2, 0, 0])
        self.assertEqual(last(*ready(), begin(seed=0), counts()), [0, 3, 0, 0, 0])
        self.assertEqual(last(new(), first(STAYS), begin(), breed(1), counts()), [0, 0, 1, 0, 0])

    def test_behind_begin(self):
        told = told_over()
        self.assertEqual(last(*BEGUN, counts()), [0, 3, 12, 3, told.state[0]])
        for k in range(1, 7):
            told.breed()
            self.assertEqual(last(*BEGUN, breed(k), counts()), [k, 3, 12 + 9 * k, 3, told.state[0]])

    def test_the_draw_s_number_by_hand(self):
        # Of one cell each, with two told: nothing is drawn at the beginning; a child of kind 3 takes three draws.
        line = ready([STAYS], n=8, d=1, longest=1) + [first(STAYS), first(STAYS)]
        line += [begin(seed=1, islands=1, size=2, elite=1, pick=1, every=0, weights=(0, 0, 9, 0, 0))]
        self.assertEqual(last(*line, counts()), [0, 1, 2, 1, 1])
        self.assertEqual(last(*line, breed(1), counts()), [1, 1, 3, 1, 1291394886])

    def test_refusals_change_nothing(self):
        line = BEGUN + [breed(2)]
        for call in (breed(0), breed(11), begin(seed=9), first(STAYS), panel(DIES), new(n=7), scored([]),
                     change(9, [], STAYS), draws(0, 0, 0), one(-1), living(3)):
            self.assertEqual(last(*line, call, counts()), last(*line, counts()))

    def test_neither_do_the_calls_that_look(self):
        line = BEGUN + [breed(2)]
        self.assertEqual(last(*line, *LOOKS, draws(5, 5, 50), counts()), last(*line, counts()))

    def test_behind_a_second_new(self):
        self.assertEqual(last(*BEGUN, breed(2), new(), counts()), [0, 0, 0, 0, 0])
        self.assertEqual(last(*BEGUN, breed(2), new(), panel(DIES), counts()), [0, 1, 0, 0, 0])
        again = ready() + [begin(), breed(1), counts()]
        self.assertEqual(last(*BEGUN, breed(2), *again), last(*again))


if __name__ == "__main__":
    unittest.main()
