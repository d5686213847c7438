"""What the tests share: calls written into a list, answers read out of one, and a slow second telling of the document.

The second telling keeps to the document's words and to nothing of the package, so that both can be held against
each other.
"""

from fighterbreeding.arena import answers

MODULUS = 2147483647
INVERSE = pow(48271, -1, MODULUS)
FAR = 10 ** 18

WORLD = (16, 2, 10, 4, 4, 2)
SMALL_WORLD = (8, 2, 3, 2, 2, 1)
DIES = [0, 0, 0]
STAYS = [3, 0, 0]
PANEL = ([3, 0, 0], [1, 0, 1, 1, 3, 5], [5, 3, 0, 1, 2, 7, 3, 15, 0])
WEIGHTS = (3, 2, 1, 2, 4)


def new(n=16, hands=2, rounds=10, d=4, longest=4, q=2):
    return [0, n, hands, rounds, d, longest, q]


def panel(program):
    return [1, len(program)] + list(program)


def first(program):
    return [2, len(program)] + list(program)


def begin(seed=1, islands=2, size=4, elite=1, pick=2, every=2, weights=WEIGHTS):
    return [3, seed, islands, size, elite, pick, every, len(weights)] + list(weights)


def breed(k):
    return [4, k]


def living(i):
    return [5, i]


def one(i):
    return [6, i]


def tree(i):
    return [7, i]


def common(i, j):
    return [8, i, j]


def split(written):
    parts = []
    at = 0
    while at < len(written):
        parts.append(written[at + 1:at + 1 + written[at]])
        at += 1 + written[at]
    return parts


def ask(*calls):
    """The answer of each call of a line, one list each."""
    return split(answers([number for call in calls for number in call]))


def last(*calls):
    return ask(*calls)[-1]


def rows_of(answer):
    """The rows of an answer that has two or more."""
    rows = []
    at = 1
    while at < len(answer):
        rows.append(answer[at + 1:at + 1 + answer[at]])
        at += 1 + answer[at]
    return rows


def ready(programs=PANEL, **world):
    return [new(**world)] + [panel(program) for program in programs]


def seed_for(y):
    """The draw's number behind which y comes."""
    return y * INVERSE % MODULUS


# --- the second telling ---

def draw(state, m):
    greatest = 2147483646 - 2147483646 % m
    for again in range(21):
        state[0] = state[0] * 48271 % MODULUS
        if state[0] - 1 < greatest:
            break
    return (state[0] - 1) % m


def play(world, mine, other, start, turn):
    """The two rows of hands at the end of a game."""
    n, most, rounds = world[0], world[1], world[2]
    ring = {place: [0, 0, 0] for place in range(n)}
    for base, cells in ((0, mine), (start, other)):
        for at in range(0, len(cells), 3):
            ring[base + at // 3] = list(cells[at:at + 3])
    hands = ([0], [start])
    for left in range(2 * rounds):
        if not hands[0] or not hands[1]:
            break
        was = {place: tuple(cell) for place, cell in ring.items()}
        p = hands[turn].pop(0)
        op, a, b = was[p]
        to_a, to_b = (p + a) % n, (p + b) % n
        on = [(p + 1) % n]
        if op == 0:
            on = []
        if op == 1:
            ring[to_b] = list(was[to_a])
        if op == 2:
            ring[to_b][2] = (was[to_b][2] + was[to_a][2]) % n
        if op == 3 or (op == 4 and was[to_b][2] != 0):
            on = [to_a]
        if op == 5:
            on.append(to_a)
        if op == 6:
            ring[to_a][2] = b
        if op == 7:
            ring[to_a], ring[to_b] = list(was[to_b]), list(was[to_a])
        hands[turn].extend(on[:most - len(hands[turn])])
        turn = 1 - turn
    return hands


def played(world):
    n, d, q = world[0], world[3], world[5]
    there = list(range(d, n - d + 1))
    c = min(q, len(there))
    return [there[i * len(there) // c] for i in range(c)]


def score(world, opponents, program):
    total = 0
    for other in opponents:
        for start in played(world):
            for turn in (0, 1):
                mine, theirs = play(world, program, other, start, turn)
                if mine:
                    total += 1 if theirs else 2
    return total


def made(world, recipe, x, y):
    """The row of the program that a recipe makes of the rows x and y."""
    n, longest = world[0], world[4]
    kind, numbers = recipe[0], list(recipe[1:]) + [0, 0, 0, 0]
    cells = [list(x[at:at + 3]) for at in range(0, len(x), 3)]
    others = [list(y[at:at + 3]) for at in range(0, len(y), 3)]
    i, j = numbers[0], numbers[1]
    if kind == 1:
        cells[i % len(cells)][j % 3] = numbers[2] % (8 if j % 3 == 0 else n)
    if kind == 2:
        cells.insert(i % (len(cells) + 1), [j % 8, numbers[2] % n, numbers[3] % n])
    if kind == 3 and len(cells) > 1:
        cells.pop(i % len(cells))
    if kind == 4:
        place = i % len(cells)
        many = 1 + j % (len(cells) - place)
        cells = cells[:place + many] + cells[place:place + many] + cells[place + many:]
    if kind == 5:
        cells = cells[:1 + i % len(cells)] + others[j % len(others):]
    return [number for cell in cells[:longest] for number in cell]


class Told:
    """One beginning and its generations, told over again."""

    def __init__(self, world, opponents, told, seed, islands, size, elite, pick, every, weights):
        self.world, self.opponents = world, opponents
        self.islands, self.size, self.elite = islands, size, elite
        self.pick, self.every, self.weights = pick, every, weights
        self.state = [seed]
        self.people = []
        self.generation = 0
        for program in told:
            self.add(list(program), [], [9])
        while len(self.people) < islands * size:
            length = 1 + self.draw(world[4])
            cells = [self.draw(bound) for cell in range(length) for bound in (8, world[0], world[0])]
            self.add(cells, [], [0] + cells)
        self.rows = [self.order(range(i * size, i * size + size)) for i in range(islands)]

    def draw(self, m):
        return draw(self.state, m)

    def add(self, program, parents, recipe):
        own = score(self.world, self.opponents, program)
        self.people.append((own, program, self.generation, parents, recipe))
        return len(self.people) - 1

    def better(self, number):
        return (-self.people[number][0], number)

    def order(self, numbers):
        return sorted(numbers, key=self.better)

    def pick_from(self, row):
        return min([row[self.draw(self.size)] for time in range(self.pick)], key=self.better)

    def child(self, row):
        parents = [self.pick_from(row)]
        falls = self.draw(sum(self.weights))
        kind = [k for k in range(1, 6) if falls < sum(self.weights[:k])][0]
        parents.append(self.pick_from(row) if kind == 5 else parents[0])
        bounds = {1: (64, 3, 64), 2: (64, 8, 64, 64), 3: (64,), 4: (64, 64), 5: (64, 64)}[kind]
        recipe = [kind] + [self.draw(bound) for bound in bounds]
        program = made(self.world, recipe, self.people[parents[0]][1], self.people[parents[1]][1])
        return self.add(program, parents, recipe)

    def breed(self):
        self.generation += 1
        for i, row in enumerate(list(self.rows)):
            children = [self.child(row) for time in range(self.size - self.elite)]
            self.rows[i] = self.order(row[:self.elite] + children)
        if self.every and self.islands > 1 and self.generation % self.every == 0:
            self.rows = over(self.rows, self.better)
        return self.bests()

    def bests(self):
        return [self.people[row[0]][0] for row in self.rows]


def over(rows, better):
    behind = [list(row) for row in rows]
    for i, row in enumerate(rows):
        to = (i + 1) % len(rows)
        if row[0] not in rows[to]:
            behind[to][-1] = row[0]
    return [sorted(row, key=better) for row in behind]
