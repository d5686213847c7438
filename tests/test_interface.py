"""How calls are read and answers are written."""

import unittest

import fighterbreeding.arena
from helper import STAYS, apart, begin, bests, breed, change, common, counts, draws, first, game, living, new, one, panel
from helper import ready, scored, split, tree, unlike

LATER = [scored(STAYS), scored([]), game(4, 0, STAYS, [5, 1, 0, 3, 0, 0]), game(3, 0, STAYS, STAYS),
         change(5, [1, 2, 3], STAYS + STAYS, [1, 0, 1]), change(9, [], STAYS), apart(STAYS, [1, 0, 1]), apart(STAYS, []),
         draws(5, 100, 3), draws(0, 1, 1), bests(), unlike(), counts()]
LINE = ready() + LATER + [first(STAYS), begin()] + LATER
LINE += [breed(2), breed(1), breed(0), living(0), living(7), one(0), one(15), tree(15), common(15, 16)] + LATER
LINE += [new(q=9), new(), panel([]), first(STAYS)] + LATER


def flat(calls):
    return [number for call in calls for number in call]


class InterfaceTest(unittest.TestCase):
    def test_one_list_of_answers_each_behind_its_count(self):
        self.assertEqual(fighterbreeding.arena.answers(flat([one(0)])), [1, -2])
        self.assertEqual(fighterbreeding.arena.answers(flat([new(n=8, d=3, longest=1, q=3), panel([9]), panel(STAYS)])),
                         [4, 3, 3, 4, 5, 1, -1, 1, 1])
        line = flat([new(n=8, d=2, longest=2, rounds=3, q=1), panel([0, 0, 0]), first(STAYS), one(0), tree(0)])
        self.assertEqual(fighterbreeding.arena.answers(line),
                         [2, 5, 2, 1, 1, 2, 4, 0, 10, 4, 3, 3, 0, 0, 1, 0, 0, 1, 9, 4, 0, 0, 1, 0])

    def test_how_the_answers_of_the_later_calls_are_written(self):
        line = flat([new(n=8, d=2, longest=2, rounds=3, q=1), panel([0, 0, 0]), scored(STAYS)])
        self.assertEqual(fighterbreeding.arena.answers(line)[-3:], [2, 4, 4])
        for calls, expected in (
                ([game(2, 0, STAYS, [5, 0, 0, 3, 0, 0])], [8, 0, 1, 6, 1, 0, 2, 3, 3]),
                ([game(2, 0, STAYS, [0, 0, 0])], [6, 1, 1, 2, 1, 0, 0]),
                ([change(4, [], STAYS)], [7, 2, 3, 0, 0, 3, 0, 0]),
                ([apart(STAYS, STAYS + [0, 0, 0])], [1, 1]),
                ([draws(1, 100, 2)], [3, 182605794, 70, 93]),
                ([bests()], [1, 0]),
                ([unlike()], [1, 0]),
                ([counts()], [5, 0, 1, 0, 0, 0]),
                ([first(STAYS), first(STAYS), begin(7, 1, 2, 1, 1, 0), bests(), unlike(), counts()],
                 [2, 4, 0, 2, 4, 1, 2, 2, 4, 2, 1, 4, 3, 1, 2, 2, 5, 0, 1, 2, 1, 7]),
                ([first(STAYS), first(STAYS), begin(7, 1, 2, 1, 1, 0, (0, 0, 1, 0, 0)), breed(1), bests(), unlike()],
                 [2, 4, 0, 2, 4, 1, 2, 2, 4, 2, 1, 4, 5, 2, 1, 4, 1, 4, 3, 1, 2, 2])):
            found = fighterbreeding.arena.answers(line + flat(calls))
            self.assertEqual(found[len(fighterbreeding.arena.answers(line)):], expected, calls)

    def test_an_answer_for_each_call(self):
        self.assertEqual(len(split(fighterbreeding.arena.answers(flat(LINE)))), len(LINE))

    def test_what_is_handed_in_stays_as_it_was(self):
        calls = flat(LINE)
        before = list(calls)
        fighterbreeding.arena.answers(calls)
        self.assertEqual(calls, before)

    def test_what_is_handed_in_is_never_written_to(self):
        class Watched(list):
            def refuse(self, *arguments):
                raise AssertionError("the list handed in is written to")
            __setitem__ = __delitem__ = __iadd__ = __imul__ = refuse
            append = extend = insert = pop = remove = clear = reverse = sort = refuse

        self.assertEqual(fighterbreeding.arena.answers(Watched(flat(LINE))), fighterbreeding.arena.answers(flat(LINE)))

    def test_asked_twice_it_answers_the_same(self):
        calls = flat(LINE)
        found = fighterbreeding.arena.answers(calls)
        fighterbreeding.arena.answers(flat(ready() + [begin(seed=5), breed(3)]))
        self.assertEqual(fighterbreeding.arena.answers(calls), found)
        self.assertIsNot(fighterbreeding.arena.answers(calls), found)

    def test_no_world_is_left_from_an_earlier_time(self):
        fighterbreeding.arena.answers(flat(ready() + [begin()]))
        self.assertEqual(fighterbreeding.arena.answers(living(0)), [1, -2])

    def test_changing_an_answer_changes_no_later_one(self):
        found = fighterbreeding.arena.answers(flat(LINE))
        copied = list(found)
        found[:] = [0] * len(found)
        self.assertEqual(fighterbreeding.arena.answers(flat(LINE)), copied)

    def test_answers_are_whole_numbers_in_a_list(self):
        found = fighterbreeding.arena.answers(flat(LINE))
        self.assertIs(found.__class__, list)
        self.assertEqual({number.__class__ for number in found}, {int})

    def test_a_long_line(self):
        line = ready() + [begin(islands=3, size=10, elite=0), breed(9)] + [panel([0] * 30)] * 30
        line += [common(299, 298), tree(299), one(299)] * 38
        self.assertLessEqual(len(line), 150)
        answers = split(fighterbreeding.arena.answers(flat(line)))
        self.assertEqual(len(answers), len(line))
        self.assertEqual(answers[-3:], answers[-6:-3])


if __name__ == "__main__":
    unittest.main()
