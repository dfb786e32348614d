"""Cells, and the store that keeps them: how they are made, written and told apart.

What a variable or a field holds stands as None (nothing), a whole number, or a Cell.
"""

VARIABLES = 16

PLAIN = 0
WEAK = 1
KEYED = 2

WHITE = 0
GREY = 1
BLACK = 2

RESTS = 0
MARKS = 1
SWEEPS = 2


class Cell:
    """One cell. A weak one's field is its target; a keyed one's are its key and its value."""

    def __init__(self, place, kind, fields):
        self.place = place
        self.kind = kind
        self.fields = fields
        self.word = None
        self.young = True
        self.seasoned = False
        # What is young has no colour.
        self.colour = None
        self.remembered = False


class Store:
    """The variables, the cells in the order in which they were made, and how far the round of the old is."""

    def __init__(self):
        self.variables = [None] * VARIABLES
        self.cells = []
        self.made = 0
        self.phase = RESTS
        # The place of the last cell that the sweep has come to: it is past all up to there.
        self.swept = -1
        # Last words that were told and not asked for yet.
        self.told = []


def is_cell(held):
    return isinstance(held, Cell)


def is_cell_of(kind, held):
    return is_cell(held) and held.kind == kind


def is_young(held):
    return is_cell(held) and held.young


def is_white(held):
    return is_cell(held) and held.colour == WHITE


def count_young(store):
    return len([cell for cell in store.cells if cell.young])


def add_cell(store, kind, fields):
    cell = Cell(store.made, kind, fields)
    store.made += 1
    store.cells.append(cell)
    return cell


def empty_cell(cell):
    """What a weak or a keyed cell becomes when its target or its key goes."""
    cell.fields = [None] * len(cell.fields)


def tell_last_word(store, cell):
    if cell.word is not None:
        store.told.append(cell.word)


def write_field(store, cell, i, held):
    cell.fields[i] = held
    if not is_cell(held):
        return
    if held.young and not cell.young:
        cell.remembered = True
    if store.phase == MARKS and cell.colour == BLACK and is_white(held):
        held.colour = GREY
