"""What the tests share: calls written into a list, answers read out of one, and a slow second telling of the document.

The second telling keeps to the document's words and to nothing of the package, so that both can be held against
each other.
"""

import functools

from fighterbreeding.arena import answers

MODULUS = 2147483647
INVERSE = pow(48271, -1, MODULUS)
FAR = 10 ** 18

WORLD = (16, 2, 10, 4, 4, 2)
SMALL_WORLD = (8, 2, 3, 2, 2, 1)
DIES = [0, 0, 0]
STAYS = [3, 0, 0]
PANEL = ([3, 0, 0], [1, 0, 1, 1, 3, 5], [5, 3, 0, 1, 2, 7, 3, 15, 0])
WEIGHTS = (3, 2, 1, 2, 4)


def new(n=16, hands=2, rounds=10, d=4, longest=4, q=2):
    return [0, n, hands, rounds, d, longest, q]


def panel(program):
    return [1, len(program)] + list(program)


def first(program):
    return [2, len(program)] + list(program)


def begin(seed=1, islands=2, size=4, elite=1, pick=2, every=2, weights=WEIGHTS):
    return [3, seed, islands, size, elite, pick, every, len(weights)] + list(weights)


def breed(k):
    return [4, k]


def living(i):
    return [5, i]


def one(i):
    return [6, i]


def tree(i):
    return [7, i]


def common(i, j):
    return [8, i, j]


def scored(program):
    return [9, len(program)] + list(program)


def game(s, turn, program, other):
    return [10, s, turn, len(program)] + list(program) + [len(other)] + list(other)


def change(kind, numbers, program, other=DIES):
    return [11, kind, len(numbers)] + list(numbers) + [len(program)] + list(program) + [len(other)] + list(other)


def apart(program, other):
    return [12, len(program)] + list(program) + [len(other)] + list(other)


def draws(x, m, k):
    return [13, x, m, k]


def bests():
    return [14]


def unlike():
    return [15]


def counts():
    return [16]


# All that can be seen of a world with two islands of which at least twelve were born.
LOOKS = [living(0), living(1), one(0), one(11), tree(11), common(10, 11), scored(STAYS), bests(), unlike(), counts()]


def split(written):
    parts = []
    at = 0
    while at < len(written):
        parts.append(written[at + 1:at + 1 + written[at]])
        at += 1 + written[at]
    return parts


def ask(*calls):
    """The answer of each call of a line, one list each."""
    return split(answers([number for call in calls for number in call]))


def last(*calls):
    return ask(*calls)[-1]


def rows_of(answer):
    """The rows of an answer that has two or more."""
    rows = []
    at = 1
    while at < len(answer):
        rows.append(answer[at + 1:at + 1 + answer[at]])
        at += 1 + answer[at]
    return rows


def ready(programs=PANEL, **world):
    return [new(**world)] + [panel(program) for program in programs]


def seed_for(y):
    """The draw's number behind which y comes."""
    return y * INVERSE % MODULUS


# --- the second telling ---

def draw(state, m):
    greatest = 2147483646 - 2147483646 % m
    for again in range(21):
        state[0] = state[0] * 48271 % MODULUS
        if state[0] - 1 < greatest:
            break
    return (state[0] - 1) % m


def play(world, mine, other, start, turn):
    """The two rows of hands at the end of a game, and how many turns were done."""
    n, most, rounds = world[0], world[1], world[2]
    ring = [(0, 0, 0)] * n
    for base, cells in ((0, mine), (start, other)):
        for at in range(0, len(cells), 3):
            ring[base + at // 3] = tuple(cells[at:at + 3])
    hands = ([0], [start])
    done = 0
    while done < 2 * rounds and hands[0] and hands[1]:
        was = list(ring)
        p = hands[turn].pop(0)
        op, a, b = was[p]
        to_a, to_b = (p + a) % n, (p + b) % n
        on = [(p + 1) % n]
        if op == 0:
            on = []
        if op == 1:
            ring[to_b] = was[to_a]
        if op == 2:
            ring[to_b] = was[to_b][:2] + ((was[to_b][2] + was[to_a][2]) % n,)
        if op == 3 or (op == 4 and was[to_b][2] != 0):
            on = [to_a]
        if op == 5:
            on.append(to_a)
        if op == 6:
            ring[to_a] = was[to_a][:2] + (b,)
        if op == 7:
            ring[to_a], ring[to_b] = was[to_b], was[to_a]
        hands[turn].extend(on[:most - len(hands[turn])])
        turn = 1 - turn
        done += 1
    return hands, done


def played(world):
    n, d, q = world[0], world[3], world[5]
    there = list(range(d, n - d + 1))
    c = min(q, len(there))
    return [there[i * len(there) // c] for i in range(c)]


def result(hands):
    if hands[0] and hands[1]:
        return 0
    return 1 if hands[0] else 2


def points(world, opponents, program):
    row = []
    for other in opponents:
        results = [result(play(world, program, other, start, turn)[0]) for start in played(world) for turn in (0, 1)]
        row.append(2 * results.count(1) + results.count(0))
    return row


def score(world, opponents, program):
    return sum(points(world, opponents, program))


def cells_of(row):
    return [tuple(row[at:at + 3]) for at in range(0, len(row), 3)]


def far(x, y):
    """How far apart the rows x and y are."""
    @functools.lru_cache(None)
    def least(mine, other):
        if not mine or not other:
            return len(mine) + len(other)
        return min(least(mine[1:], other) + 1, least(mine, other[1:]) + 1,
                   least(mine[1:], other[1:]) + (mine[0] != other[0]))
    return least(tuple(cells_of(x)), tuple(cells_of(y)))


def made(world, recipe, x, y):
    """The row of the program that a recipe makes of the rows x and y."""
    n, longest = world[0], world[4]
    kind, numbers = recipe[0], list(recipe[1:]) + [0, 0, 0, 0]
    cells = [list(x[at:at + 3]) for at in range(0, len(x), 3)]
    others = [list(y[at:at + 3]) for at in range(0, len(y), 3)]
    i, j = numbers[0], numbers[1]
    if kind == 1:
        cells[i % len(cells)][j % 3] = numbers[2] % (8 if j % 3 == 0 else n)
    if kind == 2:
        cells.insert(i % (len(cells) + 1), [j % 8, numbers[2] % n, numbers[3] % n])
    if kind == 3 and len(cells) > 1:
        cells.pop(i % len(cells))
    if kind == 4:
        place = i % len(cells)
        many = 1 + j % (len(cells) - place)
        cells = cells[:place + many] + cells[place:place + many] + cells[place + many:]
    if kind == 5:
        cells = cells[:1 + i % len(cells)] + others[j % len(others):]
    return [number for cell in cells[:longest] for number in cell]


class Told:
    """One beginning and its generations, told over again."""

    def __init__(self, world, opponents, told, seed, islands, size, elite, pick, every, weights):
        self.world, self.opponents = world, opponents
        self.islands, self.size, self.elite = islands, size, elite
        self.pick, self.every, self.weights = pick, every, weights
        self.state = [seed]
        self.people = []
        self.generation = 0
        for program in told:
            self.add(list(program), [], [9])
        while len(self.people) < islands * size:
            length = 1 + self.draw(world[4])
            cells = [self.draw(bound) for cell in range(length) for bound in (8, world[0], world[0])]
            self.add(cells, [], [0] + cells)
        self.rows = [self.order(range(i * size, i * size + size)) for i in range(islands)]

    def draw(self, m):
        return draw(self.state, m)

    def add(self, program, parents, recipe):
        own = score(self.world, self.opponents, program)
        self.people.append((own, program, self.generation, parents, recipe))
        return len(self.people) - 1

    def better(self, number):
        return (-self.people[number][0], number)

    def order(self, numbers):
        return sorted(numbers, key=self.better)

    def pick_from(self, row):
        return min([row[self.draw(self.size)] for time in range(self.pick)], key=self.better)

    def child(self, row):
        parents = [self.pick_from(row)]
        falls = self.draw(sum(self.weights))
        kind = [k for k in range(1, 6) if falls < sum(self.weights[:k])][0]
        parents.append(self.pick_from(row) if kind == 5 else parents[0])
        bounds = {1: (64, 3, 64), 2: (64, 8, 64, 64), 3: (64,), 4: (64, 64), 5: (64, 64)}[kind]
        recipe = [kind] + [self.draw(bound) for bound in bounds]
        program = made(self.world, recipe, self.people[parents[0]][1], self.people[parents[1]][1])
        return self.add(program, parents, recipe)

    def breed(self):
        self.generation += 1
        for i, row in enumerate(list(self.rows)):
            children = [self.child(row) for time in range(self.size - self.elite)]
            self.rows[i] = self.order(row[:self.elite] + children)
        if self.every and self.islands > 1 and self.generation % self.every == 0:
            self.rows = over(self.rows, self.better)
        return self.bests()

    def bests(self):
        return [self.people[row[0]][0] for row in self.rows]


def over(rows, better):
    behind = [list(row) for row in rows]
    for i, row in enumerate(rows):
        to = (i + 1) % len(rows)
        if row[0] not in rows[to]:
            behind[to][-1] = row[0]
    return [sorted(row, key=better) for row in behind]


# Each call's name, how many whole numbers it has, and how many rows.
SHAPES = (("new", 6, 0), ("panel", 0, 1), ("first", 0, 1), ("begin", 6, 1), ("breed", 1, 0), ("living", 1, 0),
          ("one", 1, 0), ("tree", 1, 0), ("common", 2, 0), ("score", 0, 1), ("game", 2, 2), ("change", 1, 3),
          ("apart", 0, 2), ("draws", 3, 0), ("bests", 0, 0), ("unlike", 0, 0), ("counts", 0, 0))


def parts(call):
    """A call's name, and its whole numbers and rows one behind another."""
    name, many, rows = SHAPES[call[0]]
    found = call[1:1 + many]
    at = 1 + many
    for row in range(rows):
        found.append(call[at + 1:at + 1 + call[at]])
        at += 1 + call[at]
    return name, found


def with_lengths(value, *rows):
    return [value] + [number for row in rows for number in [len(row)] + list(row)]


def generations(value, rows):
    return [value] + rows[0] if len(rows) == 1 else with_lengths(value, *rows)


class Telling:
    """All seventeen calls told over again, each by a method of its name."""

    def __init__(self):
        self.world = None

    def answer(self, call):
        name, found = parts(call)
        if self.world is None and name not in ("new", "draws"):
            return [-2]
        return getattr(self, name)(*found)

    def wrong(self, *rows):
        """Whether one of the rows is no program of this world."""
        n, longest = self.world[0], self.world[4]
        for row in rows:
            if len(row) not in range(3, 3 * longest + 1, 3):
                return True
            if any(not 0 <= number < bound for number, bound in zip(row, (8, n, n) * longest)):
                return True
        return False

    def people(self):
        if self.bred:
            return self.bred.people
        return [(score(self.world, self.opponents, row), row, 0, [], [9]) for row in self.told]

    def new(self, n, hands, rounds, d, longest, q):
        if not (8 <= n <= 32 and 1 <= hands <= 4 and 1 <= rounds <= 40 and 1 <= d <= 8 and n >= 2 * d
                and 1 <= longest <= 8 and longest <= d and 1 <= q <= 4):
            return [-1]
        self.world = (n, hands, rounds, d, longest, q)
        self.opponents, self.told, self.bred, self.best = [], [], None, []
        return [n - 2 * d + 1] + played(self.world)

    def panel(self, row):
        if self.bred or self.told:
            return [-3]
        if self.wrong(row):
            return [-1]
        if len(self.opponents) == 4:
            return [-5]
        self.opponents.append(row)
        return [len(self.opponents)]

    def first(self, row):
        if self.bred:
            return [-3]
        if self.wrong(row):
            return [-1]
        if len(self.told) == 10:
            return [-5]
        self.told.append(row)
        return [score(self.world, self.opponents, row), len(self.told) - 1]

    def begin(self, seed, islands, size, elite, pick, every, weights):
        if self.bred:
            return [-3]
        if not (1 <= seed <= 2147483646 and 1 <= islands <= 3 and 2 <= size <= 10 and 0 <= elite <= size - 1
                and 1 <= pick <= 4 and 0 <= every <= 10 and len(weights) == 5 and min(weights) >= 0
                and 0 < max(weights) <= 9):
            return [-1]
        if not self.opponents:
            return [-4]
        if len(self.told) > size:
            return [-5]
        self.bred = Told(self.world, self.opponents, self.told, seed, islands, size, elite, pick, every, weights)
        self.best.append(self.bred.bests())
        return [len(self.bred.people)] + self.best[0]

    def breed(self, k):
        if not self.bred:
            return [-4]
        if not 1 <= k <= 10:
            return [-1]
        if len(self.bred.people) + k * self.bred.islands * (self.bred.size - self.bred.elite) > 300:
            return [-8]
        now = [self.bred.breed() for generation in range(k)]
        self.best += now
        return generations(self.bred.generation, now)

    def living(self, i):
        if not self.bred or not 0 <= i < self.bred.islands:
            return [-6]
        row = self.bred.rows[i]
        return with_lengths(len(row), row, [self.bred.people[number][0] for number in row])

    def lacks(self, *numbers):
        return any(not 0 <= number < len(self.people()) for number in numbers)

    def families(self):
        found = []
        for own, row, generation, parents, recipe in self.people():
            found.append(set(parents).union(*[found[parent] for parent in parents]))
        return found

    def one(self, i):
        if self.lacks(i):
            return [-6]
        own, row, generation, parents, recipe = self.people()[i]
        return with_lengths(own, row, [generation], parents, recipe)

    def tree(self, i):
        if self.lacks(i):
            return [-6]
        steps = []
        for somebody in self.people():
            steps.append(max([steps[parent] + 1 for parent in somebody[3]], default=0))
        forebears = sorted(self.families()[i])
        return with_lengths(len(forebears), forebears, [steps[i]])

    def common(self, i, j):
        if self.lacks(i, j):
            return [-6]
        families = self.families()
        both = sorted((families[i] | {i}) & (families[j] | {j}))
        return [len(both)] + both

    def score(self, row):
        if self.wrong(row):
            return [-1]
        found = points(self.world, self.opponents, row)
        return [sum(found)] + found

    def game(self, s, turn, row, other):
        n, d = self.world[0], self.world[3]
        if not d <= s <= n - d or turn not in (0, 1) or self.wrong(row, other):
            return [-1]
        hands, done = play(self.world, row, other, s, turn)
        return with_lengths(result(hands), [done], hands[0], hands[1])

    def change(self, kind, numbers, row, other):
        if not 1 <= kind <= 5 or len(numbers) > 4 or any(not 0 <= number <= 1000 for number in numbers):
            return [-1]
        if self.wrong(row, other):
            return [-1]
        found = made(self.world, [kind] + numbers, row, other)
        return [len(found) // 3] + found

    def apart(self, row, other):
        return [-1] if self.wrong(row, other) else [far(row, other)]

    def draws(self, x, m, k):
        if not (1 <= x <= 2147483646 and 1 <= m <= 1000000 and 1 <= k <= 50):
            return [-1]
        state = [x]
        found = [draw(state, m) for time in range(k)]
        return state + found

    def bests(self):
        return generations(len(self.best), self.best) if self.best else [0]

    def unlike(self):
        living = [self.bred.people[number][1] for row in self.bred.rows for number in row] if self.bred else []
        return [len({tuple(row) for row in living})] + [living.count(row) for row in living]

    def counts(self):
        many = len(self.people())
        if not self.bred:
            return [0, len(self.opponents), many, 0, 0]
        return [self.bred.generation, len(self.opponents), many, self.bred.islands, self.bred.state[0]]


def tell(*calls):
    """What the document asks of each call of a line."""
    telling = Telling()
    return [telling.answer(call) for call in calls]
