"""Colours, the round of the old, remembered cells and last words, looked at from within.

The state is set up by hand here, also such as no list of calls comes to.
"""

import unittest

from letgostore.cells import BLACK, GREY, KEYED, MARKS, PLAIN, RESTS, SWEEPS, WEAK, WHITE
from letgostore.cells import Store, add_cell, write_field
from letgostore.old import work_slice
from letgostore.store import call_cell, call_held, call_set
from letgostore.young import round_of_the_young


def make_old(store, colour=WHITE, kind=PLAIN, fields=()):
    cell = add_cell(store, kind, list(fields))
    cell.young = False
    cell.colour = colour
    return cell


def make_young(store, kind=PLAIN, fields=(), seasoned=False):
    cell = add_cell(store, kind, list(fields))
    cell.seasoned = seasoned
    return cell


class AtTheBeginning(unittest.TestCase):
    def test_the_store(self):
        store = Store()
        self.assertEqual((store.variables, store.cells, store.phase, store.told), ([None] * 16, [], RESTS, []))

    def test_a_cell(self):
        store = Store()
        call_cell(store, [0, 2, 0, 5])
        cell = store.variables[0]
        self.assertEqual((cell.young, cell.seasoned, cell.colour, cell.remembered, cell.word),
                         (True, False, None, False, None))

    def test_cells_are_in_the_order_in_which_they_are_made(self):
        store = Store()
        for v in range(5):
            call_cell(store, [v, 0])
        store.variables[2] = None
        round_of_the_young(store)
        call_cell(store, [2, 0])
        places = [cell.place for cell in store.cells]
        self.assertEqual(places, sorted(set(places)))
        self.assertEqual(store.cells[-1], store.variables[2])


class Written(unittest.TestCase):
    def test_an_old_cell_that_comes_to_hold_a_young_one_is_remembered(self):
        store = Store()
        store.variables[0] = make_old(store, fields=[None])
        store.variables[1] = make_young(store)
        self.assertEqual(call_set(store, [0, 0, 1]), [0])
        self.assertTrue(store.variables[0].remembered)

    def test_it_stays_so_when_the_field_is_written_again(self):
        store = Store()
        holder = make_old(store, fields=[None])
        write_field(store, holder, 0, make_young(store))
        write_field(store, holder, 0, 3)
        self.assertTrue(holder.remembered)

    def test_no_other_is_remembered(self):
        store = Store()
        young = make_young(store, fields=[None])
        old = make_old(store, fields=[None])
        for holder, held in ((young, young), (young, old), (old, old), (old, 5), (old, None)):
            write_field(store, holder, 0, held)
            self.assertFalse(holder.remembered)

    def test_a_white_one_in_a_black_one_becomes_grey_while_it_marks(self):
        store = Store()
        store.phase = MARKS
        white = make_old(store, WHITE)
        write_field(store, make_old(store, BLACK, fields=[None]), 0, white)
        self.assertEqual(white.colour, GREY)

    def test_it_does_not_otherwise(self):
        for phase, holder_colour in ((RESTS, BLACK), (SWEEPS, BLACK), (MARKS, WHITE), (MARKS, GREY)):
            store = Store()
            store.phase = phase
            white = make_old(store, WHITE)
            write_field(store, make_old(store, holder_colour, fields=[None]), 0, white)
            self.assertEqual(white.colour, WHITE)
        store.phase = MARKS
        write_field(store, make_young(store, fields=[None]), 0, white)
        self.assertEqual(white.colour, WHITE)

    def test_other_colours_stay(self):
        for colour in (GREY, BLACK):
            store = Store()
            store.phase = MARKS
            held = make_old(store, colour)
            holder = make_old(store, BLACK, fields=[None])
            write_field(store, holder, 0, held)
            self.assertEqual((held.colour, holder.colour), (colour, BLACK))

    def test_a_young_one_in_a_black_one_gets_no_colour(self):
        store = Store()
        store.phase = MARKS
        young = make_young(store)
        holder = make_old(store, BLACK, fields=[None])
        write_field(store, holder, 0, young)
        self.assertEqual((young.colour, holder.remembered), (None, True))


class GrowingOld(unittest.TestCase):
    def colours(self, phase, swept):
        """Of five cells, made one behind another, that become old."""
        store = Store()
        store.phase = phase
        store.swept = swept
        for v in range(5):
            store.variables[v] = make_young(store, seasoned=True)
        round_of_the_young(store)
        self.assertEqual([cell.young for cell in store.cells], [False] * 5)
        return [cell.colour for cell in store.cells]

    def test_white_if_it_rests_grey_if_it_marks(self):
        self.assertEqual(self.colours(RESTS, -1), [WHITE] * 5)
        self.assertEqual(self.colours(RESTS, 2), [WHITE] * 5)
        self.assertEqual(self.colours(MARKS, -1), [GREY] * 5)
        self.assertEqual(self.colours(MARKS, 2), [GREY] * 5)

    def test_if_it_sweeps_white_where_the_sweep_is_past(self):
        self.assertEqual(self.colours(SWEEPS, -1), [BLACK] * 5)
        self.assertEqual(self.colours(SWEEPS, 2), [WHITE, WHITE, WHITE, BLACK, BLACK])
        self.assertEqual(self.colours(SWEEPS, 4), [WHITE] * 5)

    def test_first_seasoned_then_old(self):
        store = Store()
        cell = make_young(store)
        store.variables[0] = cell
        round_of_the_young(store)
        self.assertEqual((cell.young, cell.seasoned, cell.colour), (True, True, None))
        round_of_the_young(store)
        self.assertEqual((cell.young, cell.colour), (False, WHITE))

    def test_old_ones_stay_as_they_are(self):
        store = Store()
        store.phase = MARKS
        cells = [make_old(store, colour) for colour in (WHITE, GREY, BLACK)]
        for time in range(3):
            round_of_the_young(store)
            self.assertEqual(store.cells, cells)
            self.assertEqual([cell.colour for cell in cells], [WHITE, GREY, BLACK])


class RememberedBehindARound(unittest.TestCase):
    def test_just_those_old_plain_cells_that_hold_a_young_one(self):
        store = Store()
        earlier = make_old(store, fields=[None])
        fresh = make_young(store)
        ripe = make_young(store, seasoned=True)
        store.variables[0] = fresh
        store.variables[1] = ripe
        to_fresh = make_old(store, fields=[1, fresh])
        to_ripe = make_old(store, fields=[ripe])
        no_more = make_old(store, fields=[3])
        earlier.fields = [ripe]
        for holder in (earlier, to_fresh, to_ripe, no_more):
            holder.remembered = True
        becomes_old = make_young(store, fields=[fresh], seasoned=True)
        stays_young = make_young(store, fields=[fresh])
        store.variables[2] = becomes_old
        store.variables[3] = stays_young
        make_old(store, kind=WEAK, fields=[fresh])
        make_old(store, kind=KEYED, fields=[fresh, fresh])
        round_of_the_young(store)
        self.assertEqual([cell for cell in store.cells if cell.remembered], [to_fresh, becomes_old])
        round_of_the_young(store)
        self.assertEqual([cell for cell in store.cells if cell.remembered], [])


class OldCellsOfOtherKinds(unittest.TestCase):
    def test_an_old_weak_cell_loses_a_young_target_that_is_let_go(self):
        store = Store()
        target = make_young(store)
        store.variables[0] = make_old(store, kind=WEAK, fields=[target])
        self.assertEqual(call_held(store, [1, 0]), [1])
        store.variables[1] = None
        round_of_the_young(store)
        self.assertEqual(call_held(store, [1, 0]), [0])
        self.assertEqual(store.variables[0].fields, [None])

    def test_an_old_keyed_cell_keeps_the_value_of_a_key_that_stays(self):
        for old_key in (True, False):
            store = Store()
            key = make_old(store) if old_key else make_young(store)
            value = make_young(store)
            store.variables[0] = None if old_key else key
            keyed = make_old(store, kind=KEYED, fields=[key, value])
            round_of_the_young(store)
            self.assertEqual(keyed.fields, [key, value])
            self.assertEqual(store.cells, [key, value, keyed])

    def test_an_old_keyed_cell_loses_key_and_value_with_the_key(self):
        store = Store()
        key = make_young(store)
        value = make_young(store)
        store.variables[0] = value
        with_cell = make_old(store, kind=KEYED, fields=[key, value])
        with_number = make_old(store, kind=KEYED, fields=[key, 5])
        round_of_the_young(store)
        self.assertEqual((with_cell.fields, with_number.fields), ([None, None], [None, None]))
        self.assertEqual(store.cells, [value, with_cell, with_number])

    def test_what_is_emptied_already_stays_so(self):
        store = Store()
        weak = make_old(store, kind=WEAK, fields=[None])
        keyed = make_old(store, kind=KEYED, fields=[None, None])
        round_of_the_young(store)
        self.assertEqual((weak.fields, keyed.fields), ([None], [None, None]))


class WhenItBeginsToMark(unittest.TestCase):
    def test_values_of_young_keyed_cells_with_young_keys_are_looked_at(self):
        store = Store()
        first, second, third, fourth = [make_old(store) for place in range(4)]
        young_key = make_young(store)
        make_young(store, KEYED, [young_key, first])
        make_young(store, KEYED, [fourth, second])
        make_old(store, kind=KEYED, fields=[young_key, third])
        self.assertEqual(work_slice(store, 1), 1)
        self.assertEqual([cell.colour for cell in (first, second, third, fourth)], [BLACK, WHITE, WHITE, WHITE])


class WhenTheSweepBegins(unittest.TestCase):
    def swept_once(self, store):
        """It marks and none is grey: the sweep begins, and comes to one cell, the first old one."""
        store.phase = MARKS
        self.assertEqual(work_slice(store, 1), 1)
        self.assertEqual(store.phase, SWEEPS)

    def test_young_and_black_ones_with_a_white_target_or_key_are_emptied(self):
        store = Store()
        first = make_old(store, BLACK)
        gone = make_old(store, WHITE)
        weak = make_old(store, BLACK, WEAK, [gone])
        keyed = make_old(store, BLACK, KEYED, [gone, first])
        young_weak = make_young(store, WEAK, [gone])
        young_keyed = make_young(store, KEYED, [gone, 5])
        self.swept_once(store)
        self.assertEqual([cell.fields for cell in (weak, keyed, young_weak, young_keyed)],
                         [[None], [None, None], [None], [None, None]])
        self.assertEqual((first.colour, gone.colour, store.cells[1]), (WHITE, WHITE, gone))

    def test_white_ones_are_left_as_they_are(self):
        store = Store()
        make_old(store, BLACK)
        gone = make_old(store, WHITE)
        weak = make_old(store, WHITE, WEAK, [gone])
        keyed = make_old(store, WHITE, KEYED, [gone, gone])
        self.swept_once(store)
        self.assertEqual((weak.fields, keyed.fields), ([gone], [gone, gone]))

    def test_other_targets_and_keys_stay(self):
        store = Store()
        first = make_old(store, BLACK)
        young = make_young(store)
        weak = make_old(store, BLACK, WEAK, [first])
        keyed = make_old(store, BLACK, KEYED, [young, 5])
        emptied = make_old(store, BLACK, KEYED, [None, None])
        self.swept_once(store)
        self.assertEqual((weak.fields, keyed.fields, emptied.fields), ([first], [young, 5], [None, None]))

    def test_the_value_of_an_old_keyed_cell_with_a_young_key_is_looked_at(self):
        store = Store()
        store.phase = MARKS
        value = make_old(store, WHITE)
        keyed = make_old(store, BLACK, KEYED, [make_young(store), value])
        self.assertEqual(work_slice(store, 1), 1)
        self.assertEqual((store.phase, value.colour, keyed.fields[1]), (MARKS, BLACK, value))

    def test_each_sweep_begins_at_the_first_old_cell(self):
        store = Store()
        for v in range(3):
            store.variables[v] = make_old(store)
        for time in range(3):
            self.assertEqual((work_slice(store, 1000), store.phase), (6, RESTS))
        store.variables = [None] * 16
        self.assertEqual((work_slice(store, 1000), store.phase, store.cells), (3, RESTS, []))


class LastWords(unittest.TestCase):
    def test_those_of_cells_let_go_are_told_in_the_cells_order(self):
        store = Store()
        cells = [make_young(store) for place in range(6)]
        for cell, word in zip(cells, (30, None, 0, 10, -7, 20)):
            cell.word = word
        store.variables[0] = cells[3]
        round_of_the_young(store)
        self.assertEqual(store.told, [30, 0, -7, 20])
        store.variables[0] = None
        round_of_the_young(store)
        self.assertEqual(store.told, [30, 0, -7, 20, 10])


if __name__ == "__main__":
    unittest.main()
