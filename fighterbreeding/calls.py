"""The calls: what each one refuses, does and answers."""

from fighterbreeding.breeding import Arena, Rates
from fighterbreeding.breeding import bear_told, begin_breeding, born_behind, breed_generation, living_programs
from fighterbreeding.changes import CROSSED, MOST_NUMBERS, POINT, changed
from fighterbreeding.distance import how_far_apart
from fighterbreeding.draws import Draws, is_draw_number
from fighterbreeding.families import forebears, in_common
from fighterbreeding.games import how_many_starts, points_against_each, result_of_ring, ring_behind
from fighterbreeding.games import starts_played, turns_done
from fighterbreeding.programs import World, cells_of_row, is_program_row, is_within, row_of_cells

WRONG = -1
NO_WORLD = -2
TOO_LATE = -3
TOO_EARLY = -4
TOO_MANY = -5
NONE_SUCH = -6
TOO_MANY_BORN = -8

MOST_IN_PANEL = 4
MOST_TOLD = 10
MOST_BORN = 300
HOW_MANY_WEIGHTS = 5
GREATEST_RECIPE_NUMBER = 1000
GREATEST_DRAW_BOUND = 1000000
MOST_DRAWS = 50

NEW = 0
DRAWS = 13


class Line:
    def __init__(self):
        self.arena = None


# One row alone stands to the answer's end; of several each stands behind its length.
def with_rows(value, rows):
    if len(rows) == 1:
        return [value] + rows[0]
    answer = [value]
    for row in rows:
        answer.append(len(row))
        answer.extend(row)
    return answer


def is_world(numbers):
    n = numbers[0]
    d = numbers[3]
    longest = numbers[4]
    if not (is_within(n, 8, 32) and is_within(numbers[1], 1, 4) and is_within(numbers[2], 1, 40)):
        return False
    if not (is_within(d, 1, 8) and n >= 2 * d):
        return False
    return is_within(longest, 1, 8) and longest <= d and is_within(numbers[5], 1, 4)


def answer_new(line, numbers):
    if not is_world(numbers):
        return [WRONG]
    world = World(numbers[0], numbers[1], numbers[2], numbers[3], numbers[4], numbers[5])
    line.arena = Arena(world)
    return with_rows(how_many_starts(world), [starts_played(world)])


def has_begun(arena):
    return arena.rates is not None


def answer_panel(arena, numbers, rows):
    if has_begun(arena) or len(arena.born) > 0:
        return [TOO_LATE]
    if not is_program_row(arena.world, rows[0]):
        return [WRONG]
    if len(arena.panel) == MOST_IN_PANEL:
        return [TOO_MANY]
    arena.panel.append(cells_of_row(rows[0]))
    return [len(arena.panel)]


def answer_first(arena, numbers, rows):
    if has_begun(arena):
        return [TOO_LATE]
    if not is_program_row(arena.world, rows[0]):
        return [WRONG]
    if len(arena.born) == MOST_TOLD:
        return [TOO_MANY]
    number = bear_told(arena, cells_of_row(rows[0]))
    return with_rows(arena.born[number].score, [[number]])


def are_weights(weights):
    if len(weights) != HOW_MANY_WEIGHTS:
        return False
    return all([is_within(weight, 0, 9) for weight in weights]) and sum(weights) > 0


def are_rates(numbers, weights):
    size = numbers[2]
    if not (is_draw_number(numbers[0]) and is_within(numbers[1], 1, 3) and is_within(size, 2, 10)):
        return False
    if not (is_within(numbers[3], 0, size - 1) and is_within(numbers[4], 1, 4)):
        return False
    return is_within(numbers[5], 0, 10) and are_weights(weights)


def answer_begin(arena, numbers, rows):
    if has_begun(arena):
        return [TOO_LATE]
    if not are_rates(numbers, rows[0]):
        return [WRONG]
    if len(arena.panel) == 0:
        return [TOO_EARLY]
    if len(arena.born) > numbers[2]:
        return [TOO_MANY]
    rates = Rates(numbers[1], numbers[2], numbers[3], numbers[4], numbers[5], rows[0])
    begin_breeding(arena, rates, Draws(numbers[0]))
    return with_rows(len(arena.born), arena.bests)


def answer_breed(arena, numbers, rows):
    if not has_begun(arena):
        return [TOO_EARLY]
    if not is_within(numbers[0], 1, 10):
        return [WRONG]
    if born_behind(arena, numbers[0]) > MOST_BORN:
        return [TOO_MANY_BORN]
    for generation in range(numbers[0]):
        breed_generation(arena)
    return with_rows(arena.generation, arena.bests[-numbers[0]:])


def answer_living(arena, numbers, rows):
    if not is_within(numbers[0], 0, len(arena.rows) - 1):
        return [NONE_SUCH]
    living = arena.rows[numbers[0]]
    return with_rows(len(living), [living, [arena.born[number].score for number in living]])


def is_somebody(arena, number):
    return is_within(number, 0, len(arena.born) - 1)


def answer_one(arena, numbers, rows):
    if not is_somebody(arena, numbers[0]):
        return [NONE_SUCH]
    one = arena.born[numbers[0]]
    return with_rows(one.score, [row_of_cells(one.program), [one.generation], one.parents, one.recipe])


def answer_tree(arena, numbers, rows):
    if not is_somebody(arena, numbers[0]):
        return [NONE_SUCH]
    found = forebears(arena.born, numbers[0])
    return with_rows(len(found), [found, [arena.born[numbers[0]].steps]])


def answer_common(arena, numbers, rows):
    if not (is_somebody(arena, numbers[0]) and is_somebody(arena, numbers[1])):
        return [NONE_SUCH]
    found = in_common(arena.born, numbers[0], numbers[1])
    return with_rows(len(found), [found])


def are_program_rows(world, rows):
    return all([is_program_row(world, row) for row in rows])


def answer_score(arena, numbers, rows):
    if not is_program_row(arena.world, rows[0]):
        return [WRONG]
    points = points_against_each(arena.world, arena.panel, cells_of_row(rows[0]))
    return with_rows(sum(points), [points])


def is_game(world, start, turn):
    return is_within(start, world.apart, world.cells - world.apart) and is_within(turn, 0, 1)


def answer_game(arena, numbers, rows):
    world = arena.world
    if not (is_game(world, numbers[0], numbers[1]) and are_program_rows(world, rows)):
        return [WRONG]
    ring = ring_behind(world, cells_of_row(rows[0]), cells_of_row(rows[1]), numbers[0], numbers[1])
    return with_rows(result_of_ring(ring), [[turns_done(world, ring)], ring.hands[0], ring.hands[1]])


def is_recipe(kind, numbers):
    if not is_within(kind, POINT, CROSSED) or len(numbers) > MOST_NUMBERS:
        return False
    return all([is_within(number, 0, GREATEST_RECIPE_NUMBER) for number in numbers])


def answer_change(arena, numbers, rows):
    if not (is_recipe(numbers[0], rows[0]) and are_program_rows(arena.world, rows[1:])):
        return [WRONG]
    program = changed(arena.world, numbers[0], rows[0], cells_of_row(rows[1]), cells_of_row(rows[2]))
    return with_rows(len(program), [row_of_cells(program)])


def answer_apart(arena, numbers, rows):
    if not are_program_rows(arena.world, rows):
        return [WRONG]
    return [how_far_apart(cells_of_row(rows[0]), cells_of_row(rows[1]))]


def are_draws(number, m, how_many):
    return is_draw_number(number) and is_within(m, 1, GREATEST_DRAW_BOUND) and is_within(how_many, 1, MOST_DRAWS)


# Draws of their own, so that the breeding's stay where they are.
def answer_draws(numbers):
    if not are_draws(numbers[0], numbers[1], numbers[2]):
        return [WRONG]
    draws = Draws(numbers[0])
    drawn = [draws.below(numbers[1]) for time_drawn in range(numbers[2])]
    return with_rows(draws.number, [drawn])


def answer_bests(arena, numbers, rows):
    return with_rows(len(arena.bests), arena.bests)


# Who lives on two islands is counted on each, as living tells it on each.
def answer_unlike(arena, numbers, rows):
    living = [tuple(program) for program in living_programs(arena)]
    times = {}
    for program in living:
        times[program] = times.get(program, 0) + 1
    return with_rows(len(times), [[times[program] for program in living]])


def draw_number_now(arena):
    if not has_begun(arena):
        return 0
    return arena.draws.number


def answer_counts(arena, numbers, rows):
    told = [len(arena.panel), len(arena.born), len(arena.rows), draw_number_now(arena)]
    return with_rows(arena.generation, [told])


# Each call's whole numbers and rows, as the list of calls has them, and what answers it in a world.
HOW_MANY_NUMBERS = (6, 0, 0, 6, 1, 1, 1, 1, 2, 0, 2, 1, 0, 3, 0, 0, 0)
HOW_MANY_ROWS = (0, 1, 1, 1, 0, 0, 0, 0, 0, 1, 2, 3, 2, 0, 0, 0, 0)
ANSWERING = {
    1: answer_panel,
    2: answer_first,
    3: answer_begin,
    4: answer_breed,
    5: answer_living,
    6: answer_one,
    7: answer_tree,
    8: answer_common,
    9: answer_score,
    10: answer_game,
    11: answer_change,
    12: answer_apart,
    14: answer_bests,
    15: answer_unlike,
    16: answer_counts,
}


def answer_call(line, call, numbers, rows):
    if call == NEW:
        return answer_new(line, numbers)
    if call == DRAWS:
        return answer_draws(numbers)
    if line.arena is None:
        return [NO_WORLD]
    answering = ANSWERING[call]
    return answering(line.arena, numbers, rows)
