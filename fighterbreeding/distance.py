"""How far apart two programs are."""


# before tells how far all but this cell is from each beginning of other; what's given back tells it with this cell.
def distances_with(before, cell, other):
    found = [before[0] + 1]
    for at in range(len(other)):
        kept_or_changed = before[at] + 1
        if other[at] == cell:
            kept_or_changed = before[at]
        found.append(min(kept_or_changed, before[at + 1] + 1, found[at] + 1))
    return found


def how_far_apart(program, other):
    distances = list(range(len(other) + 1))
    for cell in program:
        distances = distances_with(distances, cell, other)
    return distances[-1]
