"""Games of one program against another, and what they score."""

from fighterbreeding.machine import Ring, run_to_end

EMPTY_CELL = (0, 0, 0)
BOTH_LEFT = 0
FIRST_ALONE = 1
ELSE_LEFT = 2
POINTS_OF_RESULT = (1, 2, 0)


def how_many_starts(world):
    return world.cells - 2 * world.apart + 1


def starts_played(world):
    total = how_many_starts(world)
    played = min(world.starts, total)
    return [world.apart + i * total // played for i in range(played)]


def ring_before(world, program, other, start, turn):
    between = [EMPTY_CELL] * (start - len(program))
    behind = [EMPTY_CELL] * (world.cells - start - len(other))
    cells = program + between + other + behind
    return Ring(cells, [[0], [start]], turn, 2 * world.rounds, world.hands)


def result_of_ring(ring):
    if len(ring.hands[0]) == 0:
        return ELSE_LEFT
    if len(ring.hands[1]) == 0:
        return FIRST_ALONE
    return BOTH_LEFT


def ring_behind(world, program, other, start, turn):
    ring = ring_before(world, program, other, start, turn)
    run_to_end(ring)
    return ring


def turns_done(world, ring):
    return 2 * world.rounds - ring.left


def game_points(world, program, other, start, turn):
    return POINTS_OF_RESULT[result_of_ring(ring_behind(world, program, other, start, turn))]


def points_against(world, program, other):
    total = 0
    for start in starts_played(world):
        total = total + game_points(world, program, other, start, 0)
        total = total + game_points(world, program, other, start, 1)
    return total


def points_against_each(world, panel, program):
    return [points_against(world, program, other) for other in panel]


def score_of(world, panel, program):
    return sum(points_against_each(world, panel, program))
