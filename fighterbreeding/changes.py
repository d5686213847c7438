"""Changes: recipes that make a program of one or two others."""

from fighterbreeding.programs import OPS

POINT = 1
PUT_IN = 2
TAKEN_OUT = 3
DOUBLED = 4
CROSSED = 5
MOST_NUMBERS = 4
BOUNDS_DRAWN = {
    1: (64, 3, 64),
    2: (64, 8, 64, 64),
    3: (64,),
    4: (64, 64),
    5: (64, 64),
}


def pointed(program, numbers, ring_size):
    place = numbers[0] % len(program)
    part = numbers[1] % 3
    cell = list(program[place])
    if part == 0:
        cell[0] = numbers[2] % OPS
    else:
        cell[part] = numbers[2] % ring_size
    return program[:place] + [tuple(cell)] + program[place + 1:]


def with_one_more(program, numbers, ring_size):
    place = numbers[0] % (len(program) + 1)
    cell = (numbers[1] % OPS, numbers[2] % ring_size, numbers[3] % ring_size)
    return program[:place] + [cell] + program[place:]


def with_one_less(program, numbers):
    if len(program) == 1:
        return program.copy()
    place = numbers[0] % len(program)
    return program[:place] + program[place + 1:]


def doubled(program, numbers):
    place = numbers[0] % len(program)
    behind = place + 1 + numbers[1] % (len(program) - place)
    return program[:behind] + program[place:]


def crossed(program, other, numbers):
    return program[:1 + numbers[0] % len(program)] + other[numbers[1] % len(other):]


def uncut_change(world, kind, numbers, program, other):
    if kind == POINT:
        return pointed(program, numbers, world.cells)
    if kind == PUT_IN:
        return with_one_more(program, numbers, world.cells)
    if kind == TAKEN_OUT:
        return with_one_less(program, numbers)
    if kind == DOUBLED:
        return doubled(program, numbers)
    return crossed(program, other, numbers)


def changed(world, kind, numbers, program, other):
    filled = numbers + [0] * (MOST_NUMBERS - len(numbers))
    return uncut_change(world, kind, filled, program, other)[:world.longest]


def numbers_drawn(draws, kind):
    return [draws.below(bound) for bound in BOUNDS_DRAWN[kind]]
