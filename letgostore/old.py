"""A round of the old, worked in slices: it marks what can be come to, then sweeps away the rest."""

from letgostore.cells import BLACK, GREY, KEYED, MARKS, PLAIN, RESTS, SWEEPS, WHITE
from letgostore.cells import empty_cell, is_cell, is_white, is_young, tell_last_word


def is_come_to(held):
    """Young, grey or black: what is young has no colour and counts as come to here."""
    return is_cell(held) and not is_white(held)


def make_grey(looked_at):
    """White cells among these become grey; answer whether there was one."""
    white = [held for held in looked_at if is_white(held)]
    for cell in white:
        cell.colour = GREY
    return len(white) > 0


def held_from_outside(store):
    """What variables and fields of young plain cells hold."""
    looked_at = list(store.variables)
    for cell in store.cells:
        if cell.young and cell.kind == PLAIN:
            looked_at.extend(cell.fields)
    return looked_at


def looked_at_first(store):
    keyed = [cell for cell in store.cells if cell.kind == KEYED and cell.young]
    return held_from_outside(store) + [cell.fields[1] for cell in keyed if is_young(cell.fields[0])]


def looked_at_again(store):
    keyed = [cell for cell in store.cells if cell.kind == KEYED and is_come_to(cell)]
    return held_from_outside(store) + [cell.fields[1] for cell in keyed if is_come_to(cell.fields[0])]


def begin_to_mark(store):
    store.phase = MARKS
    make_grey(looked_at_first(store))


def begin_to_sweep(store):
    for cell in store.cells:
        if cell.kind != PLAIN and is_come_to(cell) and is_white(cell.fields[0]):
            empty_cell(cell)
    store.phase = SWEEPS
    store.swept = -1


def make_black(cell):
    cell.colour = BLACK
    if cell.kind == PLAIN:
        make_grey(cell.fields)


def mark_step(store):
    """Answer how many units this was."""
    grey = [cell for cell in store.cells if cell.colour == GREY]
    if len(grey) > 0:
        make_black(grey[0])
        return 1
    if not make_grey(looked_at_again(store)):
        begin_to_sweep(store)
    return 0


def sweep_cell(store, cell):
    store.swept = cell.place
    if cell.colour == WHITE:
        tell_last_word(store, cell)
        # Remembered cells are looked for among these, so it is not remembered any more either.
        store.cells.remove(cell)
    else:
        cell.colour = WHITE


def sweep_step(store):
    """Answer how many units this was: none where nothing is left to come to, and then it rests."""
    ahead = [cell for cell in store.cells if not cell.young and cell.place > store.swept]
    if len(ahead) == 0:
        store.phase = RESTS
        return 0
    sweep_cell(store, ahead[0])
    return 1


def work_slice(store, units):
    """Answer how many units were worked."""
    if store.phase == RESTS:
        begin_to_mark(store)
    worked = 0
    # Where it comes to rest the slice ends, so that one slice never begins a second round.
    while worked < units and store.phase != RESTS:
        worked += mark_step(store) if store.phase == MARKS else sweep_step(store)
    return worked
