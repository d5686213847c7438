"""Long lines in which calls of all kinds stand mixed, held against the second telling of the document."""

import random
import unittest

import helper
from fighterbreeding.arena import answers
from helper import FAR, ask

# Each call with every refusal that the document tells of it.
REFUSALS = {0: (-1,), 1: (-2, -3, -1, -5), 2: (-2, -3, -1, -5), 3: (-2, -3, -1, -4, -5), 4: (-2, -4, -1, -8),
            5: (-2, -6), 6: (-2, -6), 7: (-2, -6), 8: (-2, -6), 9: (-2, -1), 10: (-2, -1), 11: (-2, -1), 12: (-2, -1),
            13: (-1,), 14: (-2,), 15: (-2,), 16: (-2,)}


class Writer:
    """Writes lines of 150 calls with three begin and six breed among them."""

    def __init__(self, seed):
        self.source = random.Random(seed)
        self.world = helper.WORLD

    def within(self, least, greatest):
        """Mostly a number of the range, now and then one beyond it."""
        if self.source.random() < 0.03:
            return self.source.choice((least - 1, greatest + 1, -FAR, FAR))
        return self.source.randint(least, greatest)

    def program(self):
        n, longest = self.world[0], self.world[4]
        cells = self.source.randint(1, longest)
        row = [self.source.randrange(bound) for cell in range(cells) for bound in (8, n, n)]
        spoilt = self.source.random()
        if spoilt < 0.02:
            row[self.source.randrange(len(row))] = self.source.choice((-1, n, 32, FAR))
        elif spoilt < 0.04:
            row = self.source.choice(([], row[:-1], row + [0], [0] * 3 * (longest + 1), [0] * 30))
        return row

    def new(self):
        d = self.source.randint(1, 8)
        n = self.source.randint(max(8, 2 * d), 32)
        self.world = (n, self.source.randint(1, 4), self.source.randint(1, 40), d, self.source.randint(1, d),
                      self.source.randint(1, 4))
        return helper.new(*self.world)

    def begin(self):
        size = self.source.randint(2, 10)
        weights = [self.source.randint(0, 9) for kind in range(5)]
        return helper.begin(self.within(1, 2147483646), self.within(1, 3), size, self.within(0, size - 1),
                            self.within(1, 4), self.within(0, 10), weights)

    def other(self):
        """Any call but new, begin and breed."""
        number = self.source.choice((1, 2) + 4 * (5, 6, 7, 8, 9, 10, 11, 12, 13, 14, 15, 16))
        n, d = self.world[0], self.world[3]
        somebody = self.source.choice((10, 60, 299))
        if number in (1, 2, 9):
            program = self.program()
            return [number, len(program)] + program
        if number in (6, 7):
            return [number, self.within(0, somebody)]
        if number == 5:
            return helper.living(self.within(0, 2))
        if number == 8:
            return helper.common(self.within(0, somebody), self.within(0, somebody))
        if number == 10:
            return helper.game(self.within(d, n - d), self.within(0, 1), self.program(), self.program())
        if number == 11:
            numbers = [self.within(0, 1000) for which in range(self.within(0, 4) % 6)]
            return helper.change(self.within(1, 5), numbers, self.program(), self.program())
        if number == 12:
            return helper.apart(self.program(), self.program())
        if number == 13:
            return helper.draws(self.within(1, 2147483646), self.within(1, 1000000), self.within(1, 50))
        return [number]

    def part(self, many):
        """One world's calls: three of them in a row make a line."""
        new = self.new()
        told = self.source.choice((0, 0, 1, 1, 2, 3, 11))
        if self.source.random() < 0.1:
            new[self.source.randint(1, 6)] = self.source.choice((-1, 0, 33, 41, FAR))
        bare = [new] + [helper.panel(self.program()) for which in range(self.source.choice((0, 1, 1, 2, 2, 3, 4, 5)))]
        bare += [helper.first(self.program()) for which in range(told)]
        bare += [self.begin(), helper.breed(self.within(1, 10)), helper.breed(self.within(1, 10))]
        if self.source.random() < 0.1:
            bare[-3:] = reversed(bare[-3:])
        line = [bare[0]]
        while bare[1:] or len(line) < many:
            left = many - len(line)
            if len(bare) > 1 and self.source.randrange(left) < 3 * (len(bare) - 1):
                line.append(bare.pop(1))
            else:
                line.append(self.other())
        return line

    def line(self):
        ahead = [self.other() for which in range(self.source.choice((0, 0, 1, 3)))]
        line = ahead + self.part(50) + self.part(50) + self.part(50 - len(ahead))
        if self.source.random() < 0.2:
            # The last begin comes a second time in the world before.
            begin = max(at for at, call in enumerate(line) if call[0] == 3)
            line.insert(100 + len(ahead), line.pop(begin))
        return line


def flat(line):
    return [number for call in line for number in call]


class LinesTest(unittest.TestCase):
    def check(self, line):
        found = ask(*line)
        expected = helper.tell(*line)
        for at, call in enumerate(line):
            self.assertEqual(found[at], expected[at], (call, line[:at]))
        self.assertEqual(len(found), len(line))
        return found

    def test_mixed_lines(self):
        seen = {number: set() for number in REFUSALS}
        for seed in range(100):
            line = Writer(seed).line()
            self.assertEqual(len(line), 150)
            self.assertEqual([sum(call[0] == number for call in line) for number in (3, 4)], [3, 6])
            self.assertLessEqual(len(flat(line)), 17000)
            for call, answer in zip(line, self.check(line)):
                seen[call[0]].add(min(answer[0], 0))
        for number, refusals in REFUSALS.items():
            self.assertEqual(seen[number], set(refusals) | {0}, number)

    def test_short_lines(self):
        for seed in range(100, 400):
            writer = Writer(seed)
            self.check([writer.other() for which in range(3)])
            self.check([writer.new()] + [writer.other() for which in range(1 + seed % 9)])

    def test_begin_and_breed_without_a_world(self):
        line = [helper.begin(), helper.breed(1), helper.begin(seed=0), helper.breed(0), helper.new(n=7), helper.begin()]
        self.assertEqual(self.check(line), [[-2], [-2], [-2], [-2], [-1], [-2]])

    def test_the_longest_games_and_the_most_born(self):
        line = []
        for seed in (1, 77, 2147483646):
            line += [helper.new(32, 4, 40, 8, 8, 4), helper.panel([3, 0, 0]), helper.panel([1, 0, 1]),
                     helper.panel([5, 2, 0, 3, 31, 0, 3, 0, 0]), helper.panel([7, 15, 15] * 8)]
            line += [helper.first([3, 0, 0])] * 10
            line += [helper.begin(seed, 3, 10, 1, 4, 1), helper.breed(9), helper.counts(), helper.breed(1),
                     helper.counts(), helper.unlike(), helper.bests(), helper.living(0), helper.living(2)]
            line += [helper.tree(272), helper.common(272, 271), helper.one(272), helper.scored([5, 31, 0] * 8)]
        found = self.check(line)
        self.assertEqual(found[line.index(helper.counts())][2], 273)

    def test_a_line_is_not_changed_and_asked_twice_answers_the_same(self):
        for seed in range(3):
            calls = flat(Writer(seed).line())
            before = list(calls)
            found = answers(calls)
            self.assertEqual(calls, before)
            answers(flat(Writer(seed + 50).line()))
            self.assertEqual(answers(calls), found)
            self.assertEqual(calls, before)


if __name__ == "__main__":
    unittest.main()
