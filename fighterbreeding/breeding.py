"""Generations: who is born, who lives on, and who goes over."""

from fighterbreeding.changes import CROSSED, changed, numbers_drawn
from fighterbreeding.games import score_of
from fighterbreeding.programs import OPS, cells_of_row

TOLD = 9
DRAWN = 0


class Somebody:
    def __init__(self, program, score, generation, parents, recipe, steps):
        self.program = program
        self.score = score
        self.generation = generation
        self.parents = parents
        self.recipe = recipe
        self.steps = steps


class Rates:
    def __init__(self, islands, size, elite, pick, every, weights):
        self.islands = islands
        self.size = size
        self.elite = elite
        self.pick = pick
        self.every = every
        self.weights = weights


class Arena:
    def __init__(self, world):
        self.world = world
        self.panel = []
        self.born = []
        self.rates = None
        self.draws = None
        self.rows = []
        self.generation = 0
        self.bests = []


def steps_back(arena, parents):
    if len(parents) == 0:
        return 0
    return 1 + max([arena.born[parent].steps for parent in parents])


def bear(arena, program, parents, recipe):
    score = score_of(arena.world, arena.panel, program)
    steps = steps_back(arena, parents)
    arena.born.append(Somebody(program, score, arena.generation, parents, recipe, steps))
    return len(arena.born) - 1


def bear_told(arena, program):
    return bear(arena, program, [], [TOLD])


def bear_drawn(arena):
    draws = arena.draws
    length = 1 + draws.below(arena.world.longest)
    numbers = []
    for place in range(length):
        numbers.append(draws.below(OPS))
        numbers.append(draws.below(arena.world.cells))
        numbers.append(draws.below(arena.world.cells))
    return bear(arena, cells_of_row(numbers), [], [DRAWN] + numbers)


def in_order(arena, numbers):
    return sorted(numbers, key=lambda number: (-arena.born[number].score, number))


def best_scores(arena):
    return [arena.born[row[0]].score for row in arena.rows]


def living_programs(arena):
    programs = []
    for row in arena.rows:
        programs.extend([arena.born[number].program for number in row])
    return programs


def first_ones(size, island):
    return list(range(island * size, island * size + size))


def begin_breeding(arena, rates, draws):
    arena.rates = rates
    arena.draws = draws
    while len(arena.born) < rates.islands * rates.size:
        bear_drawn(arena)
    arena.rows = [in_order(arena, first_ones(rates.size, island)) for island in range(rates.islands)]
    arena.bests.append(best_scores(arena))


# A row has the better ones first, so the best of those picked is the one that stands first.
def picked(arena, row):
    places = [arena.draws.below(arena.rates.size) for time_picked in range(arena.rates.pick)]
    return row[min(places)]


def kind_drawn(arena):
    number = arena.draws.below(sum(arena.rates.weights))
    kind = 1
    bound = arena.rates.weights[0]
    while number >= bound:
        bound = bound + arena.rates.weights[kind]
        kind = kind + 1
    return kind


def bear_child(arena, row):
    parent = picked(arena, row)
    kind = kind_drawn(arena)
    second = parent
    if kind == CROSSED:
        second = picked(arena, row)
    numbers = numbers_drawn(arena.draws, kind)
    program = changed(arena.world, kind, numbers, arena.born[parent].program, arena.born[second].program)
    return bear(arena, program, [parent, second], [kind] + numbers)


def row_behind(arena, row):
    staying = row[:arena.rates.elite]
    children = [bear_child(arena, row) for place in range(arena.rates.size - arena.rates.elite)]
    return in_order(arena, staying + children)


def is_time_to_go_over(arena):
    every = arena.rates.every
    return every != 0 and len(arena.rows) > 1 and arena.generation % every == 0


# Who goes over stays at home as well, or an island would lose its best.
def go_over(arena):
    rows = []
    for place in range(len(arena.rows)):
        row = arena.rows[place]
        comer = arena.rows[place - 1][0]
        if comer in row:
            rows.append(row)
        else:
            rows.append(in_order(arena, row[:-1] + [comer]))
    arena.rows = rows


def breed_generation(arena):
    arena.generation = arena.generation + 1
    arena.rows = [row_behind(arena, row) for row in arena.rows]
    if is_time_to_go_over(arena):
        go_over(arena)
    arena.bests.append(best_scores(arena))


def born_behind(arena, generations):
    rates = arena.rates
    return len(arena.born) + generations * rates.islands * (rates.size - rates.elite)
