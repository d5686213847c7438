"""The machine: a ring of cells in which two fighters take turns."""

DIE = 0
COPY = 1
ADD = 2
GO = 3
GOIF = 4
FORK = 5
SET = 6
SWAP = 7


class Ring:
    def __init__(self, cells, hands, turn, left, most):
        self.cells = cells
        self.hands = hands
        self.turn = turn
        self.left = left
        self.most = most


def has_ended(ring):
    return ring.left == 0 or len(ring.hands[0]) == 0 or len(ring.hands[1]) == 0


# Both cells are read before one is written: an order sees the ring as it was ahead of the turn.
def write_cells(cells, cell, at_a, at_b):
    op = cell[0]
    a_cell = cells[at_a]
    b_cell = cells[at_b]
    if op == COPY:
        cells[at_b] = a_cell
    elif op == ADD:
        cells[at_b] = (b_cell[0], b_cell[1], (b_cell[2] + a_cell[2]) % len(cells))
    elif op == SET:
        cells[at_a] = (a_cell[0], a_cell[1], cell[2])
    elif op == SWAP:
        cells[at_a] = b_cell
        cells[at_b] = a_cell


# The order of the places matters: with few hands free, the later one is lost.
def places_behind(op, following, at_a, b_number):
    if op == DIE:
        return []
    if op == GO:
        return [at_a]
    if op == GOIF and b_number != 0:
        return [at_a]
    if op == FORK:
        return [following, at_a]
    return [following]


def take_turn(ring):
    cells = ring.cells
    row = ring.hands[ring.turn]
    place = row.pop(0)
    cell = cells[place]
    at_a = (place + cell[1]) % len(cells)
    at_b = (place + cell[2]) % len(cells)
    following = (place + 1) % len(cells)
    places = places_behind(cell[0], following, at_a, cells[at_b][2])
    write_cells(cells, cell, at_a, at_b)
    for going in places:
        if len(row) < ring.most:
            row.append(going)
    ring.turn = 1 - ring.turn
    ring.left = ring.left - 1


def run_to_end(ring):
    while not has_ended(ring):
        take_turn(ring)
