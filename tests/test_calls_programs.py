"""The calls change, apart and draws."""

import itertools
import random
import unittest

import helper
from helper import DIES, FAR, LOOKS, STAYS, apart, ask, begin, breed, change, draws, first, last, new, ready
from test_calls_games import BEHIND, WRONG_PROGRAMS

A, B, C, D, E = [1, 1, 1], [2, 2, 2], [3, 3, 3], [4, 4, 4], [5, 5, 5]
WIDE = new(n=16, d=8, longest=8)


class ChangeTest(unittest.TestCase):
    def check(self, kind, numbers, program, expected, other=DIES, world=WIDE):
        self.assertEqual(last(world, change(kind, numbers, program, other)), [len(expected) // 3] + expected)

    def test_point(self):
        self.check(1, [0, 0, 5], A + B, [5, 1, 1] + B)
        self.check(1, [1, 0, 13], A + B, A + [5, 2, 2])
        self.check(1, [2, 1, 7], A + B, [1, 7, 1] + B)
        self.check(1, [3, 2, 31], A + B, A + [2, 2, 15])
        self.check(1, [0, 1, 15], A, [1, 15, 1])

    def test_put_in(self):
        self.check(2, [0, 3, 4, 5], A + B, [3, 4, 5] + A + B)
        self.check(2, [1, 11, 20, 31], A + B, A + [3, 4, 15] + B)
        self.check(2, [2, 3, 4, 5], A + B, A + B + [3, 4, 5])
        self.check(2, [3, 3, 4, 5], A + B, [3, 4, 5] + A + B)

    def test_taken_out(self):
        self.check(3, [0], A + B + C, B + C)
        self.check(3, [1], A + B + C, A + C)
        self.check(3, [5], A + B + C, A + B)

    def test_doubled(self):
        self.check(4, [0, 0], A + B + C, A + A + B + C)
        self.check(4, [0, 2], A + B + C, A + B + C + A + B + C)
        self.check(4, [1, 1], A + B + C, A + B + C + B + C)
        self.check(4, [4, 2], A + B + C, A + B + B + C)
        self.check(4, [2, 9], A + B + C, A + B + C + C)

    def test_crossed(self):
        self.check(5, [0, 0], A + B, A + C + D + E, other=C + D + E)
        self.check(5, [1, 2], A + B, A + B + E, other=C + D + E)
        self.check(5, [2, 4], A + B, A + D + E, other=C + D + E)

    def test_missing_numbers_are_0(self):
        for kind, numbers, expected in ((1, [], [0, 1, 1] + B), (1, [1], A + [0, 2, 2]), (1, [1, 1], A + [2, 0, 2]),
                                        (2, [], DIES + A + B), (2, [1], A + DIES + B), (2, [1, 7], A + [7, 0, 0] + B),
                                        (2, [1, 7, 9], A + [7, 9, 0] + B), (3, [], B), (4, [], A + A + B),
                                        (4, [1], A + B + B), (5, [], A + C + D), (5, [1], A + B + C + D)):
            self.check(kind, numbers, A + B, expected, other=C + D)
            self.check(kind, numbers + [0] * (4 - len(numbers)), A + B, expected, other=C + D)

    def test_numbers_that_a_kind_has_no_need_of(self):
        self.check(1, [1, 1, 6, 999], A + B, A + [2, 6, 2])
        self.check(3, [0, 5, 6, 7], A + B, B)
        self.check(4, [1, 0, 6, 7], A + B, A + B + B)
        self.check(5, [0, 1, 6, 7], A + B, A + D, other=C + D)

    def test_numbers_up_to_1000(self):
        # 1000 modulo 3 is 1, modulo 8 is 0, modulo 16 is 8, modulo 2 is 0.
        self.check(1, [1000, 1000, 1000], A + B, [1, 8, 1] + B)
        self.check(1, [1000, 999, 999], A + B, [7, 1, 1] + B)
        self.check(1, [999, 998, 1000], A + B, A + [2, 2, 8])
        self.check(2, [1000, 1000, 1000, 1000], A + B, A + [0, 8, 8] + B)
        self.check(3, [1000], A + B + C, A + C)
        self.check(4, [1000, 1000], A + B + C, A + B + B + C)
        self.check(5, [1000, 1000], A + B + C, A + B + B + C, other=A + B + C)

    def test_numbers_are_meant_modulo_the_world(self):
        self.check(1, [0, 1, 1000], A, [1, 1000 % 9, 1], world=new(n=9))
        self.check(2, [1, 0, 1000, 999], A, A + [0, 1000 % 31, 999 % 31], world=new(n=31))

    def test_what_is_too_long_is_cut_at_its_end(self):
        two, three = new(d=2, longest=2), new(d=3, longest=3)
        self.check(2, [0, 3, 4, 5], A + B, [3, 4, 5] + A, world=two)
        self.check(2, [1, 3, 4, 5], A + B, A + [3, 4, 5], world=two)
        self.check(2, [2, 3, 4, 5], A + B, A + B, world=two)
        self.check(2, [2, 3, 4, 5], A + B, A + B + [3, 4, 5], world=three)
        self.check(4, [0, 2], A + B + C, A + B + C + A, world=new(longest=4))
        self.check(4, [0, 7], A * 4 + B * 4, A * 4 + B * 4)
        self.check(4, [7, 0], A * 4 + B * 4, A * 4 + B * 4)
        self.check(5, [1, 0], A + B, A + B + C, other=C + D + E, world=three)
        self.check(5, [7, 0], A * 8, A * 8, other=B * 8)
        self.check(5, [3, 0], A * 8, A * 4 + B * 4, other=B * 8)

    def test_the_program_of_one_cell(self):
        one = new(d=1, longest=1)
        self.check(1, [7, 1, 5], A, [1, 5, 1])
        self.check(2, [1, 5, 6, 7], A, A + [5, 6, 7])
        self.check(3, [0], A, A)
        self.check(3, [7], A, A)
        self.check(4, [7, 7], A, A + A)
        self.check(5, [7, 7], A, A + B, other=B)
        self.check(1, [7, 1, 5], A, [1, 5, 1], world=one)
        self.check(2, [0, 5, 6, 7], A, [5, 6, 7], world=one)
        self.check(2, [1, 5, 6, 7], A, A, world=one)
        self.check(3, [0], A, A, world=one)
        self.check(4, [0, 0], A, A, world=one)
        self.check(5, [0, 0], A, A, other=B, world=one)

    def test_the_second_program_is_for_kind_5_alone(self):
        for kind in range(1, 5):
            self.assertEqual(last(WIDE, change(kind, [1, 1, 1], A + B, C)), last(WIDE, change(kind, [1, 1, 1], A + B, D)))

    def test_wrong_numbers(self):
        for kind in (0, 6, 9, -1, FAR, -FAR):
            self.assertEqual(last(WIDE, change(kind, [1, 1], A, B)), [-1], kind)
        for kind in range(1, 6):
            for numbers in ([0] * 5, [0] * 30, [-1], [1001], [0, 0, 0, 1001], [0, 0, 0, -1], [FAR], [0, -FAR]):
                self.assertEqual(last(WIDE, change(kind, numbers, A + B, B)), [-1], (kind, numbers))

    def test_wrong_programs(self):
        for kind in range(1, 6):
            for program in WRONG_PROGRAMS:
                self.assertEqual(last(new(), change(kind, [], program, A)), [-1], program)
                self.assertEqual(last(new(), change(kind, [], A, program)), [-1], program)
                self.assertEqual(last(new(), change(kind, [-1], program, program)), [-1], program)

    def test_without_a_world(self):
        for call in (change(1, [], A, B), change(0, [-1], [], []), change(5, [0] * 30, A, [])):
            self.assertEqual(ask(call), [[-2]])
            self.assertEqual(ask(new(n=7), call), [[-1], [-2]])

    def test_before_and_behind_begin_and_a_second_new(self):
        call = change(2, [1, 9, 20, 3], A + B + C + D)
        expected = [4] + A + [1, 4, 3] + B + C
        for line in ([new()], ready(), ready() + [first(STAYS)], BEHIND, BEHIND + [new()], BEHIND + [new(n=7)]):
            self.assertEqual(last(*line, call), expected)
        self.assertEqual(last(*BEHIND, new(n=32, d=5, longest=5), call), [5] + A + [1, 20, 3] + B + C + D)
        self.assertEqual(last(*BEHIND, new(d=3, longest=3), call), [-1])

    def test_it_changes_nothing(self):
        for call in (change(1, [0, 0, 5], A), change(5, [], A, B), change(6, [], A), change(1, [], []), change(1, [-1], A)):
            self.assertEqual(ask(*BEHIND, call, breed(1), *LOOKS)[-11:], ask(*BEHIND, breed(1), *LOOKS)[-11:])

    def test_it_is_that_of_the_second_telling(self):
        source = random.Random(29)
        for time in range(1500):
            d = source.randint(1, 8)
            world = (source.randint(16, 32), 1, 1, d, source.randint(1, d), 1)
            rows = [[source.randrange(8) for number in range(3 * source.randint(1, world[4]))] for which in range(2)]
            kind = source.randint(1, 5)
            numbers = [source.randint(0, 1000) for number in range(source.randint(0, 4))]
            expected = helper.made(world, [kind] + numbers, rows[0], rows[1])
            self.assertEqual(last(new(*world), change(kind, numbers, *rows)), [len(expected) // 3] + expected)


class ApartTest(unittest.TestCase):
    def check(self, program, other, far):
        self.assertEqual(last(WIDE, apart(program, other)), [far])
        self.assertEqual(last(WIDE, apart(other, program)), [far])

    def test_alike(self):
        for program in (A, DIES, A + B + C, A * 8):
            self.check(program, program, 0)

    def test_put_in_and_taken_out(self):
        self.check(A + B, A + C + B, 1)
        self.check(A + B, C + A + B, 1)
        self.check(A + B, A + B + C, 1)
        self.check(A + B, C + A + D + B + E, 3)
        self.check(A, A * 8, 7)

    def test_changed(self):
        self.check(A + B + C, A + D + C, 1)
        self.check(A + B + C, E + D + C, 2)
        self.check(A * 8, B * 8, 8)
        self.check([1, 1, 1], [1, 1, 2], 1)
        self.check([1, 1, 1], [1, 2, 1], 1)
        self.check([1, 1, 1], [2, 1, 1], 1)
        self.check([1, 1, 1], [2, 3, 4], 1)

    def test_unlike_lengths(self):
        self.check(A, B * 8, 8)
        self.check(A + B + C, D, 3)
        self.check(A + B + C + D, B + D, 2)
        self.check(A + B + C + D, D + A, 4)

    def test_putting_in_and_taking_out_is_less_than_changing(self):
        self.check(A + B + C + D + E, B + C + D + E + A, 2)
        self.check(A + B + A + B + A + B, B + A + B + A + B + A, 2)
        self.check(A + B, B + A, 2)

    def test_cells_not_numbers_are_told_apart(self):
        self.check([1, 2, 3, 4, 5, 6], [2, 3, 4, 5, 6, 1], 2)

    def test_it_is_that_of_steps_one_by_one(self):
        # All programs of up to three cells of two sorts, and by how many single steps each is reached from each.
        programs = [sum(cells, []) for many in (1, 2, 3, 4) for cells in itertools.product((A, B), repeat=many)]
        for start in [row for row in programs if len(row) < 12]:
            reached, edge, steps = {tuple(start): 0}, [start], 0
            while edge:
                steps += 1
                near = [row for edge_row in edge for row in one_step(edge_row) if tuple(row) not in reached]
                near = [row for row in near if row in programs]
                reached.update({tuple(row): steps for row in near})
                edge = near
            others = [row for row in programs if len(row) < 12]
            found = ask(WIDE, *[apart(start, row) for row in others])[1:]
            self.assertEqual(found, [[reached[tuple(row)]] for row in others])

    def test_it_is_that_of_the_second_telling(self):
        source = random.Random(31)
        for time in range(1000):
            rows = [sum(source.choices((A, B, C), k=source.randint(1, 8)), []) for which in range(2)]
            self.check(rows[0], rows[1], helper.far(rows[0], rows[1]))

    def test_wrong_programs(self):
        for program in WRONG_PROGRAMS:
            self.assertEqual(last(new(), apart(program, A)), [-1], program)
            self.assertEqual(last(new(), apart(A, program)), [-1], program)
            self.assertEqual(last(new(), apart(program, program)), [-1], program)

    def test_least_and_greatest_programs(self):
        self.assertEqual(last(new(), apart(DIES, [7, 15, 15] * 4)), [4])
        self.assertEqual(last(new(), apart(DIES, [7, 15, 15] * 5)), [-1])

    def test_without_a_world(self):
        for call in (apart(A, B), apart([], []), apart(A, [9])):
            self.assertEqual(ask(call), [[-2]])
            self.assertEqual(ask(new(n=7), call), [[-1], [-2]])

    def test_before_and_behind_begin_and_a_second_new(self):
        for line in ([new()], ready(), ready() + [first(STAYS)], BEHIND, BEHIND + [new()], BEHIND + [new(n=7)]):
            self.assertEqual(last(*line, apart(A + B, B + C)), [2])
        self.assertEqual(last(*BEHIND, new(d=1, longest=1), apart(A + B, B + C)), [-1])

    def test_it_changes_nothing(self):
        for call in (apart(A, B), apart(A, A), apart([], B), apart(A, [0])):
            self.assertEqual(ask(*BEHIND, call, breed(1), *LOOKS)[-11:], ask(*BEHIND, breed(1), *LOOKS)[-11:])


def one_step(row):
    """Every row that one cell put in, taken out or changed makes of a row of the cells A and B."""
    cells = [row[at:at + 3] for at in range(0, len(row), 3)]
    found = []
    for at in range(len(cells) + 1):
        found += [cells[:at] + [cell] + cells[at:] for cell in (A, B)]
        found += [cells[:at] + [cell] + cells[at + 1:] for cell in (A, B) if at < len(cells)]
        found += [cells[:at] + cells[at + 1:]] if at < len(cells) else []
    return [sum(made, []) for made in found]


class DrawsTest(unittest.TestCase):
    def test_by_hand(self):
        self.assertEqual(ask(draws(1, 100, 1)), [[48271, 70]])
        self.assertEqual(ask(draws(1, 100, 4)), [[1914720637, 70, 93, 85, 36]])
        self.assertEqual(ask(draws(48271, 10, 2)), [[1291394886, 3, 5]])

    def test_least_and_greatest(self):
        self.assertEqual(ask(draws(1, 1, 1)), [[48271, 0]])
        self.assertEqual(ask(draws(2147483646, 1, 1)), [[2147435376, 0]])
        # 2147435376 is too great to be kept below 1000000.
        self.assertEqual(ask(draws(2147483646, 1000000, 1)), [[1964877853, 877852]])
        self.assertEqual(last(draws(1, 1, 50))[1:], [0] * 50)
        self.assertEqual(len(last(draws(2147483646, 1000000, 50))), 51)

    def test_one_beyond_and_far_beyond(self):
        for call in (draws(0, 10, 5), draws(-1, 10, 5), draws(2147483647, 10, 5), draws(FAR, 10, 5), draws(-FAR, 10, 5),
                     draws(1, 0, 5), draws(1, -1, 5), draws(1, 1000001, 5), draws(1, FAR, 5), draws(1, -FAR, 5),
                     draws(1, 10, 0), draws(1, 10, -1), draws(1, 10, 51), draws(1, 10, FAR), draws(1, 10, -FAR),
                     draws(0, 0, 0)):
            self.assertEqual(ask(call), [[-1]], call)
            self.assertEqual(ask(new(), call)[1], [-1], call)

    def test_numbers_that_are_drawn_again(self):
        for m in (4, 5, 8, 64, 1000, 10000):
            bound = 2147483646 - 2147483646 % m
            self.assertEqual(ask(draws(helper.seed_for(bound), m, 1)), [[bound, m - 1]])
            for y in (bound + 1, 2147483646):
                behind = y * 48271 % helper.MODULUS
                self.assertLess(behind - 1, bound)
                self.assertEqual(ask(draws(helper.seed_for(y), m, 1)), [[behind, (behind - 1) % m]])

    def test_numbers_that_are_drawn_again_twice(self):
        self.assertEqual(ask(draws(helper.seed_for(2147483646), 1000000, 1)), [[1964877853, 877852]])

    def test_where_m_divides_all_numbers_none_is_drawn_again(self):
        for m in (1, 2, 3, 6, 7, 9, 11, 31, 151, 331):
            self.assertEqual(ask(draws(helper.seed_for(2147483646), m, 1)), [[2147483646, m - 1]])

    def test_in_whatever_pieces(self):
        whole = last(draws(77, 1000, 50))
        row, x = [], 77
        for k in (1, 9, 15, 25):
            answer = last(draws(x, 1000, k))
            x = answer[0]
            row += answer[1:]
        self.assertEqual([x] + row, whole)

    def test_without_a_world_and_in_one(self):
        expected = [1291394886, 70, 93, 85]
        for line in ([], [new(n=7)], [new()], ready(), ready() + [first(STAYS)], BEHIND, BEHIND + [new()]):
            self.assertEqual(last(*line, draws(1, 100, 3)), expected)
        self.assertEqual(ask(draws(1, 100, 3), helper.counts()), [expected, [-2]])

    def test_it_leaves_the_breeding_s_own_draws_as_they_were(self):
        for call in (draws(1, 100, 50), draws(5, 7, 1), draws(0, 1, 1), draws(1, 0, 1), draws(1, 1, 51)):
            self.assertEqual(ask(*BEHIND, call, breed(1), *LOOKS)[-11:], ask(*BEHIND, breed(1), *LOOKS)[-11:])
            self.assertEqual(ask(*BEHIND, call, helper.counts())[-1], last(*BEHIND, helper.counts()))
            self.assertEqual(ask(*ready(), call, begin(), *LOOKS)[-11:], ask(*ready(), begin(), *LOOKS)[-11:])
        now = last(*BEHIND, helper.counts())[-1]
        self.assertEqual(ask(*BEHIND, draws(now, 9, 9), breed(2), *LOOKS)[-11:], ask(*BEHIND, breed(2), *LOOKS)[-11:])

    def test_they_are_those_of_the_second_telling(self):
        source = random.Random(37)
        for time in range(500):
            x, m, k = source.randint(1, 2147483646), source.choice((2, 10, 64, 1000, 999999, 1000000)), source.randint(1, 50)
            state = [x]
            row = [helper.draw(state, m) for draw in range(k)]
            self.assertEqual(ask(draws(x, m, k)), [state + row])


if __name__ == "__main__":
    unittest.main()
