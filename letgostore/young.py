"""A round of the young: which young cells are kept, and what becomes of all the others."""

from letgostore.cells import BLACK, GREY, KEYED, MARKS, PLAIN, RESTS, WHITE
from letgostore.cells import empty_cell, is_young, tell_last_word


def stays(kept, held):
    """Whatever is not young counts as kept: old cells, numbers, nothing."""
    return not is_young(held) or held.place in kept


def held_at_first(store):
    found = list(store.variables)
    for cell in store.cells:
        if cell.remembered:
            found.extend(cell.fields)
    return found


def keep_from(kept, waiting):
    """Keep the young cells that wait, and what comes with them through plain cells; none waits then."""
    while len(waiting) > 0:
        held = waiting.pop()
        if stays(kept, held):
            continue
        kept[held.place] = True
        if held.kind == PLAIN:
            waiting.extend(held.fields)


def values_to_keep(store, kept):
    """The values, not kept yet, of keyed cells that stay and whose keys stay."""
    keyed = [cell for cell in store.cells if cell.kind == KEYED and stays(kept, cell)]
    values = [cell.fields[1] for cell in keyed if stays(kept, cell.fields[0])]
    return [value for value in values if not stays(kept, value)]


def find_kept(store):
    """The places of the young cells that are kept, as a dict of True."""
    kept = {}
    waiting = held_at_first(store)
    while len(waiting) > 0:
        keep_from(kept, waiting)
        # A value that is kept may be, or hold, the key of another: so this is asked until nothing new comes.
        waiting = values_to_keep(store, kept)
    return kept


def empty_if_gone(kept, cell):
    """A weak cell loses a target that is let go; a keyed one whose key is loses its value too."""
    if cell.kind != PLAIN and not stays(kept, cell.fields[0]):
        empty_cell(cell)


def colour_when_old(store, cell):
    if store.phase == RESTS:
        return WHITE
    if store.phase == MARKS:
        return GREY
    # The sweep lets go of the white ones that it comes to, and this one is kept.
    return WHITE if cell.place <= store.swept else BLACK


def grow_up(store, cell):
    if cell.seasoned:
        cell.young = False
        cell.seasoned = False
        cell.colour = colour_when_old(store, cell)
    else:
        cell.seasoned = True


def is_to_be_remembered(cell):
    return cell.kind == PLAIN and not cell.young and any([is_young(held) for held in cell.fields])


def round_of_the_young(store):
    kept = find_kept(store)
    for gone in [cell for cell in store.cells if not stays(kept, cell)]:
        tell_last_word(store, gone)
    store.cells = [cell for cell in store.cells if stays(kept, cell)]
    for cell in store.cells:
        empty_if_gone(kept, cell)
        if cell.young:
            grow_up(store, cell)
    # A loop of its own: who is young is settled only when all have grown up.
    for cell in store.cells:
        cell.remembered = is_to_be_remembered(cell)
