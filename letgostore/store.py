"""The calls on one store, one behind another, and what they answer."""

from letgostore.cells import BLACK, GREY, KEYED, PLAIN, VARIABLES, WEAK, WHITE, Store
from letgostore.cells import add_cell, count_young, is_cell, is_cell_of, write_field
from letgostore.old import work_slice
from letgostore.shape import cells_seen, tell_shape
from letgostore.young import round_of_the_young

MOST_HELD = 1000000000
MOST_FIELDS = 6
MOST_CELLS = 150
YOUNG_FOR_A_ROUND = 20
MOST_ROUNDS = 2
MOST_UNITS = 1000
MOST_SEEN = 60

NOT_AS_TOLD = -1
NO_SUCH_CELL = -3
NO_SUCH_FIELD = -4
NO_ROOM = -6
TOO_MANY_SEEN = -7


def is_variable(number):
    return 0 <= number < VARIABLES


def may_be_held(number):
    return -MOST_HELD <= number <= MOST_HELD


def is_full(store):
    return len(store.cells) >= MOST_CELLS


def count_old(store):
    return len(store.cells) - count_young(store)


def count_remembered(store):
    return len([cell for cell in store.cells if cell.remembered])


def count_coloured(store, colour):
    return len([cell for cell in store.cells if cell.colour == colour])


def make_room(store):
    """Answer how many rounds of the young there were."""
    rounds = 0
    while rounds < MOST_ROUNDS and count_young(store) >= YOUNG_FOR_A_ROUND:
        round_of_the_young(store)
        rounds += 1
    return rounds


def make_cell(store, v, kind, fields):
    """Put a new cell into variable v; answer how many rounds there were ahead of it."""
    if is_full(store):
        return [NO_ROOM]
    rounds = make_room(store)
    store.variables[v] = add_cell(store, kind, fields)
    return [rounds]


def is_field_told(way, number):
    if way == 0:
        return may_be_held(number)
    return way == 1 and is_variable(number)


def are_fields_told(row):
    if len(row) % 2 != 0 or len(row) > 2 * MOST_FIELDS:
        return False
    return all([is_field_told(row[at], row[at + 1]) for at in range(0, len(row), 2)])


def told_field(store, way, number):
    return number if way == 0 else store.variables[number]


def told_fields(store, row):
    return [told_field(store, row[at], row[at + 1]) for at in range(0, len(row), 2)]


def field_refusal(held, i):
    """0, or why what is held has no field i."""
    if not is_cell_of(PLAIN, held):
        return NO_SUCH_CELL
    if not 0 <= i < len(held.fields):
        return NO_SUCH_FIELD
    return 0


# Each call takes the store and the numbers behind its own; those that are variables are known to be 0 to 15.


def call_cell(store, numbers):
    """cell (v; fields)."""
    # Between the variable and the row stands how many numbers the row has.
    row = numbers[2:]
    if not are_fields_told(row):
        return [NOT_AS_TOLD]
    return make_cell(store, numbers[0], PLAIN, told_fields(store, row))


def call_num(store, numbers):
    """num (v, z)."""
    if not may_be_held(numbers[1]):
        return [NOT_AS_TOLD]
    store.variables[numbers[0]] = numbers[1]
    return [0]


def call_move(store, numbers):
    """move (v, u)."""
    store.variables[numbers[0]] = store.variables[numbers[1]]
    return [0]


def call_clear(store, numbers):
    """clear (v)."""
    store.variables[numbers[0]] = None
    return [0]


def call_get(store, numbers):
    """get (v, u, i)."""
    cell = store.variables[numbers[1]]
    i = numbers[2]
    refusal = field_refusal(cell, i)
    if refusal < 0:
        return [refusal]
    held = cell.fields[i]
    store.variables[numbers[0]] = held
    if held is None:
        return [2]
    return [1] if is_cell(held) else [0, held]


def call_set(store, numbers):
    """set (u, i, v)."""
    cell = store.variables[numbers[0]]
    i = numbers[1]
    refusal = field_refusal(cell, i)
    if refusal < 0:
        return [refusal]
    write_field(store, cell, i, store.variables[numbers[2]])
    return [0]


def call_weak(store, numbers):
    """weak (v, u)."""
    target = store.variables[numbers[1]]
    if not is_cell(target):
        return [NO_SUCH_CELL]
    return make_cell(store, numbers[0], WEAK, [target])


def call_held(store, numbers):
    """held (v, u)."""
    cell = store.variables[numbers[1]]
    if not is_cell_of(WEAK, cell):
        return [NO_SUCH_CELL]
    target = cell.fields[0]
    store.variables[numbers[0]] = target
    return [0] if target is None else [1]


def call_keyed(store, numbers):
    """keyed (v, k, x)."""
    key = store.variables[numbers[1]]
    if not is_cell(key):
        return [NO_SUCH_CELL]
    return make_cell(store, numbers[0], KEYED, [key, store.variables[numbers[2]]])


def call_found(store, numbers):
    """found (v, u, k)."""
    cell = store.variables[numbers[1]]
    key = store.variables[numbers[2]]
    if not is_cell_of(KEYED, cell) or not is_cell(key):
        return [NO_SUCH_CELL]
    has_key = cell.fields[0] == key
    store.variables[numbers[0]] = cell.fields[1] if has_key else None
    return [1] if has_key else [0]


def call_last(store, numbers):
    """last (u, z)."""
    if not may_be_held(numbers[1]):
        return [NOT_AS_TOLD]
    cell = store.variables[numbers[0]]
    if not is_cell(cell):
        return [NO_SUCH_CELL]
    cell.word = numbers[1]
    return [0]


def call_words(store, numbers):
    """words ()."""
    told = store.told
    store.told = []
    return [len(told)] + told


def call_young(store, numbers):
    """young ()."""
    cells_before = len(store.cells)
    old_before = count_old(store)
    round_of_the_young(store)
    # A round of the young lets go of no old cell, so there are more of these by just those that became old.
    return [cells_before - len(store.cells), count_old(store) - old_before, count_young(store)]


def call_slice(store, numbers):
    """slice (n)."""
    if not 1 <= numbers[0] <= MOST_UNITS:
        return [NOT_AS_TOLD]
    cells_before = len(store.cells)
    worked = work_slice(store, numbers[0])
    return [worked, store.phase, cells_before - len(store.cells)]


def call_counts(store, numbers):
    """counts ()."""
    ages = [count_young(store), count_old(store), count_remembered(store)]
    colours = [count_coloured(store, colour) for colour in (WHITE, GREY, BLACK)]
    return [len(store.cells)] + ages + colours + [store.phase]


def call_shape(store, numbers):
    """shape (u)."""
    held = store.variables[numbers[0]]
    seen = cells_seen(held)
    if len(seen) > MOST_SEEN:
        return [TOO_MANY_SEEN]
    return [len(seen)] + tell_shape(held, seen)


def call_same(store, numbers):
    """same (u, v)."""
    held = store.variables[numbers[0]]
    return [1] if is_cell(held) and held == store.variables[numbers[1]] else [0]


CALL_WITH_ROW = 1

CALLS = {
    1: call_cell,
    2: call_num,
    3: call_move,
    4: call_clear,
    5: call_get,
    6: call_set,
    7: call_weak,
    8: call_held,
    9: call_keyed,
    10: call_found,
    11: call_last,
    12: call_words,
    13: call_young,
    14: call_slice,
    15: call_counts,
    16: call_shape,
    17: call_same,
}

# How many numbers stand behind the call's own, a row's count among them but not the row.
NUMBERS = {1: 2, 2: 2, 3: 2, 4: 1, 5: 3, 6: 3, 7: 2, 8: 2, 9: 3,
           10: 3, 11: 2, 12: 0, 13: 0, 14: 1, 15: 0, 16: 1, 17: 2}

# Which of these are variables.
VARIABLES_AT = {1: (0,), 2: (0,), 3: (0, 1), 4: (0,), 5: (0, 1), 6: (0, 2), 7: (0, 1), 8: (0, 1), 9: (0, 1, 2),
                10: (0, 1, 2), 11: (0,), 12: (), 13: (), 14: (), 15: (), 16: (0,), 17: (0, 1)}


def end_of_call(calls, at):
    end = at + 1 + NUMBERS[calls[at]]
    if calls[at] == CALL_WITH_ROW:
        end += calls[at + 2]
    return end


def answer_call(store, call):
    numbers = call[1:]
    if not all([is_variable(numbers[at]) for at in VARIABLES_AT[call[0]]]):
        return [NOT_AS_TOLD]
    act = CALLS[call[0]]
    return act(store, numbers)


def answers(calls):
    """For each call, in order: how many numbers are answered, then these."""
    store = Store()
    given = []
    at = 0
    while at < len(calls):
        end = end_of_call(calls, at)
        answer = answer_call(store, calls[at:end])
        given.append(len(answer))
        given.extend(answer)
        at = end
    return given
