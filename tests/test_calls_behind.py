"""The calls that breed and that look: breed, living, one, tree, common."""

import unittest

import helper
from helper import FAR, STAYS, ask, begin, breed, common, first, last, living, new, one, ready, rows_of, tree

LINE = ready() + [first(STAYS), first([1, 0, 1]), begin(islands=3, size=4, elite=1, every=2), breed(6)]
BORN = 12 + 6 * 3 * 3


def told_over():
    told = helper.Told(helper.WORLD, helper.PANEL, [STAYS, [1, 0, 1]], 1, 3, 4, 1, 2, 2, helper.WEIGHTS)
    return told, [told.breed() for generation in range(6)]


def family(number, parents):
    found = {number}
    for parent in parents[number]:
        found |= family(parent, parents)
    return found


class BreedTest(unittest.TestCase):
    def test_one_generation_stands_without_its_length(self):
        line = ready() + [begin()]
        told = helper.Told(helper.WORLD, helper.PANEL, [], 1, 2, 4, 1, 2, 2, helper.WEIGHTS)
        self.assertEqual(last(*line, breed(1)), [1] + told.breed())

    def test_several_stand_each_with_its_length(self):
        told, bests = told_over()
        answer = last(*LINE)
        self.assertEqual((answer[0], len(answer)), (6, 1 + 6 * 4))
        self.assertEqual(rows_of(answer), bests)

    def test_the_number_goes_on(self):
        line = ready() + [begin(size=2, elite=1), breed(1), breed(3), breed(1)]
        self.assertEqual([answer[0] for answer in ask(*line)[-3:]], [1, 4, 5])

    def test_least_and_greatest(self):
        line = ready() + [begin(size=2, elite=1)]
        self.assertEqual(last(*line, breed(1))[0], 1)
        self.assertEqual(last(*line, breed(10))[0], 10)
        for k in (0, 11, -1, FAR, -FAR):
            self.assertEqual(last(*line, breed(k)), [-1], k)
            self.assertEqual(last(*line, breed(k), breed(2)), last(*line, breed(2)))

    def test_before_begin(self):
        self.assertEqual(last(*ready(), breed(1)), [-4])
        self.assertEqual(last(*ready(), breed(0)), [-4])
        self.assertEqual(last(*ready(), begin(seed=0), breed(1)), [-4])

    def test_three_hundred_born(self):
        line = ready() + [begin(islands=3, size=10, elite=0)]
        self.assertEqual(last(*line, breed(10)), [-8])
        self.assertEqual(last(*line, breed(11)), [-1])
        self.assertEqual(last(*line, breed(9))[0], 9)
        self.assertEqual(last(*line, breed(9), breed(1)), [-8])
        self.assertGreaterEqual(last(*line, breed(9), breed(1), one(299))[0], 0)
        self.assertEqual(last(*line, breed(9), breed(1), one(300)), [-6])
        self.assertEqual(last(*line, breed(10), breed(2)), last(*line, breed(2)))

    def test_three_hundred_and_few_born(self):
        line = ready() + [begin(islands=3, size=10, elite=3), breed(10)]
        self.assertEqual(last(*line, breed(3)), [-8])
        self.assertEqual(last(*line, breed(2), breed(1)), [-8])
        self.assertEqual(last(*line, breed(2))[0], 12)

    def test_one_more_than_three_hundred(self):
        # 7 at the beginning and 7 a generation: 294 behind 41 of them, 301 behind 42.
        line = ready() + [begin(islands=1, size=7, elite=0)] + [breed(10)] * 4
        self.assertEqual(last(*line, breed(2)), [-8])
        self.assertEqual(last(*line, breed(2), breed(1))[0], 41)


class LivingTest(unittest.TestCase):
    def test_ordinary(self):
        told, bests = told_over()
        for i in range(3):
            answer = last(*LINE, living(i))
            row = told.rows[i]
            self.assertEqual(answer, [4, 4] + row + [4] + [told.people[number][0] for number in row])

    def test_the_better_first_and_of_alike_ones_the_less_number(self):
        line = ready() + [first([0, 0, 0]), first(STAYS), first([0, 0, 0]), first(STAYS), begin(islands=1)]
        numbers, scores = rows_of(last(*line, living(0)))
        self.assertEqual(numbers, [1, 3, 0, 2])
        self.assertGreater(scores[0], scores[2])
        self.assertEqual((scores[0], scores[2]), (scores[1], scores[3]))

    def test_no_such_island(self):
        for i in (-1, 3, FAR, -FAR):
            self.assertEqual(last(*LINE, living(i)), [-6])
        self.assertEqual(last(*ready(), living(0)), [-6])
        self.assertEqual(last(*ready(), first(STAYS), living(0)), [-6])
        self.assertEqual(last(*ready(), begin(islands=1), living(1)), [-6])


class OneTest(unittest.TestCase):
    def test_everybody(self):
        told, bests = told_over()
        found = ask(*LINE, *[one(i) for i in range(BORN)])[-BORN:]
        for answer, somebody in zip(found, told.people):
            own, program, generation, parents, recipe = somebody
            self.assertEqual(answer[0], own)
            self.assertEqual(rows_of(answer), [program, [generation], parents, recipe])

    def test_a_told_one_before_begin(self):
        answer = last(*ready(), first([1, 0, 1, 3, 15, 0]), one(0))
        own = helper.score(helper.WORLD, helper.PANEL, [1, 0, 1, 3, 15, 0])
        self.assertEqual(answer, [own, 6, 1, 0, 1, 3, 15, 0, 1, 0, 0, 1, 9])

    def test_none_such(self):
        for i in (-1, BORN, FAR, -FAR):
            self.assertEqual(last(*LINE, one(i)), [-6])
        self.assertEqual(last(new(), one(0)), [-6])
        self.assertEqual(last(*ready(), first(STAYS), one(1)), [-6])


class FamiliesTest(unittest.TestCase):
    def setUp(self):
        told, bests = told_over()
        self.parents = [somebody[3] for somebody in told.people]

    def steps(self, number):
        return max([1 + self.steps(parent) for parent in self.parents[number]], default=0)

    def test_trees(self):
        found = ask(*LINE, *[tree(i) for i in range(BORN)])[-BORN:]
        for i, answer in enumerate(found):
            forebears = sorted(family(i, self.parents) - {i})
            self.assertEqual(answer, [len(forebears), len(forebears)] + forebears + [1, self.steps(i)])
        self.assertGreater(max(answer[-1] for answer in found), 2)

    def test_a_tree_without_parents(self):
        self.assertEqual(last(*ready(), first(STAYS), tree(0)), [0, 0, 1, 0])
        self.assertEqual(last(*LINE, tree(11)), [0, 0, 1, 0])

    def test_common(self):
        pairs = [(i, j) for i in range(0, BORN, 5) for j in range(0, BORN, 6)][:120]
        found = ask(*LINE, *[common(i, j) for i, j in pairs])[-len(pairs):]
        for (i, j), answer in zip(pairs, found):
            shared = sorted(family(i, self.parents) & family(j, self.parents))
            self.assertEqual(answer, [len(shared)] + shared, (i, j))

    def test_common_with_itself_and_with_a_parent(self):
        child = BORN - 1
        parent = self.parents[child][0]
        own = sorted(family(child, self.parents))
        self.assertEqual(last(*LINE, common(child, child)), [len(own)] + own)
        theirs = sorted(family(parent, self.parents))
        self.assertEqual(last(*LINE, common(child, parent)), [len(theirs)] + theirs)
        self.assertEqual(last(*LINE, common(parent, child)), [len(theirs)] + theirs)

    def test_nothing_in_common(self):
        self.assertEqual(last(*LINE, common(0, 1)), [0])

    def test_none_such(self):
        for i in (-1, BORN, FAR, -FAR):
            self.assertEqual(last(*LINE, tree(i)), [-6])
            self.assertEqual(last(*LINE, common(i, 0)), [-6])
            self.assertEqual(last(*LINE, common(0, i)), [-6])
            self.assertEqual(last(*LINE, common(i, i)), [-6])
        self.assertEqual(last(new(), tree(0)), [-6])
        self.assertEqual(last(new(), common(0, 0)), [-6])
        self.assertEqual(last(*ready(), first(STAYS), common(0, 0)), [1, 0])

    def test_looking_changes_nothing(self):
        looks = [living(0), one(3), tree(20), common(20, 21), living(9), one(-1), tree(-1), common(0, -1)]
        self.assertEqual(last(*LINE, *looks, breed(3)), last(*LINE, breed(3)))


if __name__ == "__main__":
    unittest.main()
