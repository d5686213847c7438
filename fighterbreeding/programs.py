"""Programs: rows of numbers and the cells that they stand for."""

OPS = 8


class World:
    def __init__(self, cells, hands, rounds, apart, longest, starts):
        self.cells = cells
        self.hands = hands
        self.rounds = rounds
        self.apart = apart
        self.longest = longest
        self.starts = starts


def is_within(number, least, greatest):
    return least <= number and number <= greatest


def cells_of_row(row):
    return [(row[at], row[at + 1], row[at + 2]) for at in range(0, len(row), 3)]


def row_of_cells(program):
    row = []
    for cell in program:
        row.extend(cell)
    return row


def is_cell(world, cell):
    last = world.cells - 1
    return is_within(cell[0], 0, OPS - 1) and is_within(cell[1], 0, last) and is_within(cell[2], 0, last)


def is_program_row(world, row):
    if len(row) % 3 != 0 or not is_within(len(row), 3, 3 * world.longest):
        return False
    return all([is_cell(world, cell) for cell in cells_of_row(row)])
