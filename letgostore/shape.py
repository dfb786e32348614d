"""The shape of what is seen from a variable, told in numbers."""

from letgostore.cells import PLAIN, is_cell


def see(seen, places, held):
    if is_cell(held) and held.place not in places:
        places[held.place] = True
        seen.append(held)


def cells_seen(held):
    """What is held, if it is a cell, and what comes with it through plain cells: breadth first, each once."""
    seen = []
    places = {}
    see(seen, places, held)
    at = 0
    while at < len(seen):
        cell = seen[at]
        if cell.kind == PLAIN:
            for inner in cell.fields:
                see(seen, places, inner)
        at += 1
    return seen


def tell_held(held, numbered):
    if held is None:
        return [2]
    return [1, numbered[held.place]] if is_cell(held) else [0, held]


def tell_cell(cell, numbered):
    # The other kinds are told by their number alone: what they hold is not seen from here.
    if cell.kind != PLAIN:
        return [cell.kind]
    told = [cell.kind, len(cell.fields)]
    for held in cell.fields:
        told.extend(tell_held(held, numbered))
    return told


def tell_shape(held, seen):
    """What is held, told, and then each cell seen, told."""
    numbered = {}
    for at, cell in enumerate(seen):
        numbered[cell.place] = at
    told = tell_held(held, numbered)
    for cell in seen:
        told.extend(tell_cell(cell, numbered))
    return told
