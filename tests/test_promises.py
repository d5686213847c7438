"""The promises 1 to 5, as the calls show them."""

import random
import unittest

import helper
from helper import DIES, LOOKS, STAYS, ask, begin, bests, breed, change, counts, draws, first, last, living, one, ready
from helper import rows_of, scored, unlike

BEGINNINGS = (
    begin(seed=5, islands=3, size=5, elite=1, pick=2, every=2),
    begin(seed=2147483646, islands=2, size=4, elite=2, pick=4, every=1),
    begin(seed=123456789, islands=3, size=6, elite=0, pick=1, every=3),
    begin(seed=31, islands=1, size=10, elite=9, pick=3, every=1),
    begin(seed=8, islands=2, size=2, elite=1, pick=1, every=10, weights=(0, 0, 0, 0, 9)),
    begin(seed=9, islands=2, size=7, elite=0, pick=2, every=0, weights=(1, 9, 0, 9, 1)))


def looks(call):
    return [living(i) for i in range(call[2])]


TOLD = [bests(), unlike(), counts()]


def everybody(line, many):
    answers = []
    for start in range(0, many, 100):
        numbers = range(start, min(start + 100, many))
        answers += ask(*line, *[one(i) for i in numbers])[-len(numbers):]
    return [[answer[0]] + rows_of(answer) for answer in answers]


def born(call, generations):
    return call[2] * call[3] + generations * call[2] * (call[3] - call[4])


class SamePiecesTest(unittest.TestCase):
    def test_in_whatever_pieces(self):
        for call in BEGINNINGS:
            line = ready() + [first(STAYS), call]
            whole = ask(*line, breed(6), *looks(call))
            bests = rows_of(whole[len(line)])
            for pieces in ((1, 5), (3, 3), (2, 1, 3), (1, 1, 1, 1, 1, 1)):
                found = ask(*line, *[breed(k) for k in pieces], *looks(call))
                self.assertEqual(found[-call[2]:], whole[-call[2]:])
                told = []
                for k, answer in zip(pieces, found[len(line):]):
                    told += [answer[1:]] if k == 1 else rows_of(answer)
                self.assertEqual(told, bests)
            whole_people = everybody(line + [breed(6)], born(call, 6))
            self.assertEqual(everybody(line + [breed(1), breed(2), breed(3)], born(call, 6)), whole_people)

    def test_what_is_told_is_the_same_in_whatever_pieces(self):
        for call in BEGINNINGS:
            line = ready() + [first(STAYS), call]
            whole = ask(*line, breed(6), *TOLD)[-3:]
            for pieces in ((1, 5), (3, 3), (2, 1, 3), (1, 1, 1, 1, 1, 1)):
                asked = [part for k in pieces for part in [breed(k)] + TOLD + [draws(7, 7, 7), scored(DIES)]]
                self.assertEqual(ask(*line, *asked, *TOLD)[-3:], whole)

    def test_another_world_between_leaves_nothing(self):
        line = ready() + [first(STAYS), BEGINNINGS[0], breed(3)] + LOOKS
        before = ready([DIES], n=9, d=3, longest=2) + [first(DIES), BEGINNINGS[1], breed(2)] + LOOKS
        self.assertEqual(ask(*before, *line)[-len(line):], ask(*line))

    def test_also_with_looks_and_refusals_between(self):
        call = BEGINNINGS[0]
        line = ready() + [first(STAYS), call]
        between = [living(0), one(0), breed(0), call, first(DIES), helper.panel(DIES), one(-1)]
        self.assertEqual(last(*line, breed(2), *between, breed(3)), last(*line, breed(2), breed(3)))

    def test_another_seed_brings_another(self):
        line = ready()
        self.assertNotEqual(ask(*line, begin(seed=1), breed(5), living(0), one(12)),
                            ask(*line, begin(seed=2), breed(5), living(0), one(12)))


class BestNeverFallsTest(unittest.TestCase):
    def test_where_elite_is_not_0(self):
        for seed in range(1, 40):
            call = begin(seed=seed, islands=1 + seed % 3, size=5, elite=1 + seed % 4, every=seed % 4)
            answers = ask(*ready(), call, breed(10))
            before = answers[-2][1:]
            for bests in rows_of(answers[-1]):
                self.assertTrue(all(now >= then for now, then in zip(bests, before)), (call, bests, before))
                before = bests

    def test_as_bests_tells_it(self):
        for seed in range(1, 40):
            call = begin(seed=seed, islands=1 + seed % 3, size=4, elite=1 + seed % 3, every=seed % 4)
            rows = rows_of(last(*ready(), call, breed(4), breed(5), bests()))
            self.assertEqual(len(rows), 10)
            for island in zip(*rows):
                self.assertEqual(list(island), sorted(island))

    def test_the_elite_stay(self):
        for elite in (1, 2, 3):
            line = ready() + [begin(seed=4, islands=1, size=4, elite=elite, every=0)]
            numbers = rows_of(last(*line, living(0)))[0]
            behind = rows_of(last(*line, breed(1), living(0)))[0]
            self.assertEqual(sorted(number for number in behind if number < 4), sorted(numbers[:elite]))

    def test_without_elite_all_are_children(self):
        line = ready() + [begin(islands=2, size=4, elite=0, every=0), breed(1)]
        self.assertEqual(sorted(rows_of(last(*line, living(0)))[0]), [8, 9, 10, 11])
        self.assertEqual(sorted(rows_of(last(*line, living(1)))[0]), [12, 13, 14, 15])


class RecipesTest(unittest.TestCase):
    def test_everybody_is_what_its_recipe_makes(self):
        kinds = set()
        for call in BEGINNINGS:
            line = ready() + [first(STAYS), first([5, 3, 0, 1, 0, 4]), call, breed(8)]
            people = everybody(line, born(call, 8))
            self.assertEqual(last(*line, one(len(people))), [-6])
            for number, somebody in enumerate(people):
                self.check(people, number, somebody)
                kinds.add(somebody[4][0])
        self.assertEqual(sorted(kinds), [0, 1, 2, 3, 4, 5, 9])

    def check(self, people, number, somebody):
        own, program, generation, parents, recipe = somebody
        self.assertEqual(own, helper.score(helper.WORLD, helper.PANEL, program))
        if recipe[0] in (0, 9):
            self.assertEqual((parents, generation), ([], [0]))
            self.assertEqual(recipe[1:], program if recipe[0] == 0 else [])
            return
        self.assertEqual(len(parents), 2)
        self.assertTrue(all(parent < number for parent in parents))
        self.assertTrue(all(people[parent][2] < generation for parent in parents))
        x, y = people[parents[0]][1], people[parents[1]][1]
        self.assertEqual(program, helper.made(helper.WORLD, recipe, x, y))
        if recipe[0] != 5:
            self.assertEqual(parents[0], parents[1])

    def test_change_and_score_make_everybody_again(self):
        for call in BEGINNINGS[:3]:
            line = ready() + [first(STAYS), call, breed(5)]
            people = everybody(line, born(call, 5))
            children = [somebody for somebody in people if somebody[3]][:60]
            asked = []
            for own, program, generation, parents, recipe in children:
                asked += [change(recipe[0], recipe[1:], *[people[parent][1] for parent in parents]), scored(program)]
            found = ask(*line, *asked)[-len(asked):]
            for at, somebody in enumerate(children):
                self.assertEqual(found[2 * at][1:], somebody[1])
                self.assertEqual(found[2 * at + 1][0], somebody[0])

    def test_a_weight_of_0_is_never_drawn(self):
        for kind in range(1, 6):
            weights = [0] * 5
            weights[kind - 1] = 1
            people = everybody(ready() + [begin(size=6, weights=weights), breed(3)], 42)
            self.assertEqual({somebody[4][0] for somebody in people[12:]}, {kind})


class HowManyLiveTest(unittest.TestCase):
    def test_as_many_as_told(self):
        for call in BEGINNINGS:
            for pieces in ((), (1,), (2,), (3,), (2, 4)):
                found = ask(*ready(), call, *[breed(k) for k in pieces], *looks(call))[-call[2]:]
                for answer in found:
                    numbers, scores = rows_of(answer)
                    self.assertEqual((answer[0], len(numbers), len(scores)), (call[3],) * 3)
                    self.assertEqual(len(set(numbers)), call[3])
                    self.assertEqual(sorted(zip([-own for own in scores], numbers)),
                                     list(zip([-own for own in scores], numbers)))


    def test_as_unlike_and_counts_tell_it(self):
        for call in BEGINNINGS:
            for k in (1, 2, 3, 6):
                found = ask(*ready(), call, breed(k), *TOLD)
                self.assertEqual(len(found[-2]) - 1, call[2] * call[3])
                self.assertEqual(found[-1][:4], [k, 3, born(call, k), call[2]])


class GoingOverTest(unittest.TestCase):
    def rows(self, every, k, seed, islands=3, elite=1):
        line = ready() + [begin(seed=seed, islands=islands, size=4, elite=elite, every=every), breed(k)]
        found = [rows_of(answer) for answer in ask(*line, *[living(i) for i in range(islands)])[-islands:]]
        scores = {number: own for row in found for number, own in zip(row[0], row[1])}
        return [row[0] for row in found], scores, last(*line)

    def test_the_first_takes_the_place_of_the_last_of_the_next_island(self):
        for seed in range(1, 25):
            for k in (1, 2, 3):
                for islands in (2, 3):
                    apart, scores, told = self.rows(0, k, seed, islands)
                    over, also, bests = self.rows(k, k, seed, islands)
                    expected = helper.over(apart, lambda number: (-scores[number], number))
                    self.assertEqual(over, expected)
                    self.assertEqual(bests[-islands:], [scores[row[0]] for row in expected])

    def test_who_goes_over_stays_at_home_too(self):
        apart, scores, told = self.rows(0, 1, 3)
        over, also, bests = self.rows(1, 1, 3)
        for i in range(3):
            self.assertIn(apart[i][0], over[i])
            self.assertIn(apart[i][0], over[(i + 1) % 3])
            self.assertNotIn(apart[(i + 1) % 3][-1], over[(i + 1) % 3])

    def test_who_lives_there_already_takes_no_place(self):
        met = 0
        for seed in range(1, 40):
            line = ready() + [begin(seed=seed, islands=2, size=4, elite=3, every=1), breed(1)]
            before = [rows_of(answer)[0] for answer in ask(*line, living(0), living(1))[-2:]]
            line.append(breed(1))
            behind = [rows_of(answer)[0] for answer in ask(*line, living(0), living(1))[-2:]]
            people = everybody(line, 12)

            def better(number):
                return (-people[number][0], number)

            # The children of the second generation are 10 and 11.
            apart = [sorted(before[i][:3] + [10 + i], key=better) for i in (0, 1)]
            met += apart[0][0] in apart[1]
            self.assertEqual(behind, helper.over(apart, better))
            if apart[0][0] in apart[1]:
                self.assertEqual(behind[1], apart[1])
        self.assertGreater(met, 0)

    def test_not_at_the_beginning_nor_between(self):
        for every in (2, 3, 10):
            self.assertEqual(self.rows(every, 1, 7)[0], self.rows(0, 1, 7)[0])
        line = ready() + [begin(seed=7, islands=2, size=4, every=1)]
        self.assertEqual(sorted(rows_of(last(*line, living(0)))[0]), [0, 1, 2, 3])

    def test_of_one_island_nobody_goes_over(self):
        for every in (1, 2):
            self.assertEqual(self.rows(every, 4, 7, islands=1), self.rows(0, 4, 7, islands=1))


class DrawsAreFairTest(unittest.TestCase):
    def test_the_length_is_drawn_again(self):
        # Below 8 the numbers from 2147483641 on are drawn again.
        for y, again in ((2147483640, 0), (2147483641, 1), (2147483646, 1)):
            line = ready(n=16, d=8, longest=8) + [begin(seed=helper.seed_for(y)), one(0)]
            cells = rows_of(last(*line))[0]
            number = y * pow(48271, again, helper.MODULUS) % helper.MODULUS
            self.assertEqual(len(cells), 3 * (1 + (number - 1) % 8))
            self.assertEqual(cells[0], (number * 48271 % helper.MODULUS - 1) % 8)

    def test_a_recipe_s_number_is_drawn_again(self):
        # One told, one drawn with a single cell: four draws; then pick, kind, and below 64 the sixth plus one.
        steps = 4 + 1 + 1 + 1
        for y, again in ((2147483584, 0), (2147483585, 1), (2147483646, 1)):
            seed = y * pow(helper.INVERSE, steps, helper.MODULUS) % helper.MODULUS
            line = ready([STAYS], n=8, d=1, longest=1) + [first(STAYS)]
            line += [begin(seed=seed, islands=1, size=2, elite=1, pick=1, every=0, weights=(0, 0, 9, 0, 0))]
            number = y * pow(48271, again, helper.MODULUS) % helper.MODULUS
            found = rows_of(last(*line, breed(1), one(2)))[3]
            self.assertEqual(found, [3, (number - 1) % 64])

    def test_draws_are_spread_evenly(self):
        for m in (2, 3, 7, 10, 64):
            found = [0] * m
            x = 2026
            for time in range(150 * m):
                answer = last(draws(x, m, 50))
                x = answer[0]
                for number in answer[1:]:
                    found[number] += 1
                if sum(found) >= 1000 * m:
                    break
            self.assertTrue(all(850 < many < 1150 for many in found), found)

    def test_drawn_cells_are_spread_evenly(self):
        ops = [0] * 8
        places = [0] * 16
        for seed in range(1, 41):
            for somebody in everybody(ready([STAYS]) + [begin(seed=seed * 50000017, islands=3, size=10)], 30):
                for at, number in enumerate(somebody[1]):
                    (places if at % 3 else ops)[number] += 1
        for found in (ops, places):
            even = sum(found) / len(found)
            self.assertTrue(all(0.75 * even < many < 1.25 * even for many in found), found)


class SecondTellingTest(unittest.TestCase):
    def test_many_lines(self):
        source = random.Random(3)
        for time in range(60):
            d = source.randint(1, 8)
            n = source.randint(max(8, 2 * d), 32)
            world = (n, source.randint(1, 4), source.randint(1, 40), d, source.randint(1, d), source.randint(1, 4))
            panel = [self.program(source, world) for which in range(source.randint(1, 4))]
            size = source.randint(2, 10)
            told = [self.program(source, world) for which in range(source.randint(0, size))]
            weights = [source.randint(0, 9) for kind in range(4)] + [source.randint(1, 9)]
            rates = (source.randint(1, 2147483646), source.randint(1, 3), size, source.randint(0, size - 1),
                     source.randint(1, 4), source.randint(0, 4))
            self.check(world, panel, told, rates, weights)

    def program(self, source, world):
        cells = source.randint(1, world[4])
        return [source.randrange(bound) for cell in range(cells) for bound in (8, world[0], world[0])]

    def check(self, world, panel, told, rates, weights):
        line = [[0] + list(world)] + [helper.panel(row) for row in panel] + [first(row) for row in told]
        line.append([3] + list(rates) + [5] + weights)
        other = helper.Told(world, panel, told, *rates, weights)
        k = min(10, (300 - len(other.people)) // (rates[1] * (rates[2] - rates[3])))
        self.assertEqual(last(*line), [len(other.people)] + other.bests())
        bests = [other.breed() for generation in range(k)]
        answer = last(*line, breed(k))
        self.assertEqual([answer[1:]] if k == 1 else rows_of(answer), bests)
        for i in range(rates[1]):
            self.assertEqual(rows_of(last(*line, breed(k), living(i)))[0], other.rows[i])
        people = everybody(line + [breed(k)], len(other.people))
        self.assertEqual(people, [[own, row, [generation], parents, recipe]
                                  for own, row, generation, parents, recipe in other.people])


if __name__ == "__main__":
    unittest.main()
