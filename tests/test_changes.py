import random
import unittest

import helper
from fighterbreeding.changes import changed, numbers_drawn
from fighterbreeding.draws import Draws
from fighterbreeding.programs import World, cells_of_row, row_of_cells

A, B, C, D, E = (1, 1, 1), (2, 2, 2), (3, 3, 3), (4, 4, 4), (5, 5, 5)


class ChangesTest(unittest.TestCase):
    def check(self, kind, numbers, program, expected, other=(), longest=8):
        world = World(16, 1, 1, 8, longest, 1)
        before, second = list(program), list(other)
        self.assertEqual(changed(world, kind, list(numbers), before, second), expected)
        self.assertEqual((before, second), (list(program), list(other)))

    def test_point(self):
        self.check(1, (0, 0, 5), [A, B], [(5, 1, 1), B])
        self.check(1, (1, 0, 13), [A, B], [A, (5, 2, 2)])
        self.check(1, (2, 1, 7), [A, B], [(1, 7, 1), B])
        self.check(1, (63, 2, 63), [A, B], [A, (2, 2, 15)])
        self.check(1, (0, 4, 16), [A], [(1, 0, 1)])
        self.check(1, (), [A, B], [(0, 1, 1), B])

    def test_put_in(self):
        self.check(2, (0, 3, 4, 5), [A, B], [(3, 4, 5), A, B])
        self.check(2, (1, 11, 20, 31), [A, B], [A, (3, 4, 15), B])
        self.check(2, (2, 3, 4, 5), [A, B], [A, B, (3, 4, 5)])
        self.check(2, (3, 3, 4, 5), [A, B], [(3, 4, 5), A, B])
        self.check(2, (4,), [A, B], [A, (0, 0, 0), B])

    def test_taken_out(self):
        self.check(3, (0,), [A, B, C], [B, C])
        self.check(3, (5,), [A, B, C], [A, B])
        self.check(3, (7,), [A], [A])

    def test_doubled(self):
        self.check(4, (0, 0), [A, B, C], [A, A, B, C])
        self.check(4, (0, 2), [A, B, C], [A, B, C, A, B, C])
        self.check(4, (1, 1), [A, B, C], [A, B, C, B, C])
        self.check(4, (1, 2), [A, B, C], [A, B, B, C])
        self.check(4, (5, 63), [A, B, C], [A, B, C, C])
        self.check(4, (3,), [A, B, C], [A, A, B, C])

    def test_crossed(self):
        self.check(5, (0, 0), [A, B], [A, C, D, E], other=[C, D, E])
        self.check(5, (1, 2), [A, B], [A, B, E], other=[C, D, E])
        self.check(5, (2, 4), [A, B], [A, D, E], other=[C, D, E])

    def test_what_is_too_long_is_cut_at_its_end(self):
        self.check(2, (0, 3, 4, 5), [A, B], [(3, 4, 5), A], longest=2)
        self.check(2, (2, 3, 4, 5), [A, B], [A, B], longest=2)
        self.check(4, (0, 2), [A, B, C], [A, B, C, A], longest=4)
        self.check(5, (1, 0), [A, B], [A, B, C], other=[C, D, E], longest=3)
        self.check(2, (1, 3, 4, 5), [A, B], [A, (3, 4, 5), B], longest=3)

    def test_numbers_drawn(self):
        for kind, bounds in ((1, (64, 3, 64)), (2, (64, 8, 64, 64)), (3, (64,)), (4, (64, 64)), (5, (64, 64))):
            draws = Draws(99)
            state = [99]
            for time in range(50):
                self.assertEqual(numbers_drawn(draws, kind), [helper.draw(state, bound) for bound in bounds])

    def test_changes_are_those_of_the_second_telling(self):
        source = random.Random(5)
        for time in range(2000):
            n, longest = source.randint(8, 32), source.randint(1, 8)
            world = (n, 1, 1, 8, longest, 1)
            rows = []
            for which in range(2):
                cells = source.randint(1, longest)
                rows.append([source.randrange(8) for number in range(3 * cells)])
            kind = source.randint(1, 5)
            numbers = [source.randint(0, 1000) for number in range(source.randint(0, 4))]
            found = changed(World(*world), kind, numbers, cells_of_row(rows[0]), cells_of_row(rows[1]))
            self.assertEqual(row_of_cells(found), helper.made(world, [kind] + numbers, rows[0], rows[1]))


if __name__ == "__main__":
    unittest.main()
