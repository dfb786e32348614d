"""Rounds of the old, in slices of one unit, of a few and of many, with other calls between the slices.

counts answers: cells, young, old, remembered, white, grey, black, and 0 (rests), 1 (marks) or 2 (sweeps).
"""

import unittest

from tests.helper import GROWN
from tests.helper import cell, chain, clear, counts, found, get, held, keyed, last, last_word, move, num, put
from tests.helper import run, same, shape, slice_of, weak, words, young

ALL = slice_of(1000)


class Slices(unittest.TestCase):
    # Old: a chain of three that variable 0 holds by its last, and a fourth that nobody holds.
    made = [cell(0), cell(0, 1, 0), cell(0, 1, 0), cell(1), *GROWN, clear(1)]

    def test_no_old_cells(self):
        self.assertEqual(run(slice_of(1), counts(), ALL), [[0, 0, 0], [0] * 8, [0, 0, 0]])
        self.assertEqual(run(cell(0), slice_of(1), counts())[1:], [[0, 0, 0], [1, 1, 0, 0, 0, 0, 0, 0]])

    def test_unit_by_unit(self):
        steps = [
            # The last of the chain is looked at first; what its field holds is grey.
            ([1, 1, 0], [4, 0, 4, 0, 2, 1, 1, 1]),
            ([1, 1, 0], [4, 0, 4, 0, 1, 1, 2, 1]),
            ([1, 1, 0], [4, 0, 4, 0, 1, 0, 3, 1]),
            # None is grey: it sweeps from now on, and the first becomes white.
            ([1, 2, 0], [4, 0, 4, 0, 2, 0, 2, 2]),
            ([1, 2, 0], [4, 0, 4, 0, 3, 0, 1, 2]),
            ([1, 2, 0], [4, 0, 4, 0, 4, 0, 0, 2]),
            ([1, 2, 1], [3, 0, 3, 0, 3, 0, 0, 2]),
            # Only now it is seen that there is none that it hasn't come to.
            ([0, 0, 0], [3, 0, 3, 0, 3, 0, 0, 0]),
        ]
        expected = [answer for step in steps for answer in step]
        self.assertEqual(run(*self.made, *[slice_of(1), counts()] * 8)[-16:], expected)

    def test_a_few_units(self):
        self.assertEqual(run(*self.made, *[slice_of(2)] * 4)[-4:], [[2, 1, 0], [2, 2, 0], [2, 2, 0], [1, 0, 1]])
        self.assertEqual(run(*self.made, *[slice_of(3)] * 3)[-3:], [[3, 1, 0], [3, 2, 0], [1, 0, 1]])
        self.assertEqual(run(*self.made, slice_of(5), slice_of(1), slice_of(9))[-3:], [[5, 2, 0], [1, 2, 0], [1, 0, 1]])

    def test_when_all_units_are_worked_it_stops_at_once(self):
        self.assertEqual(run(*self.made, slice_of(7), counts(), slice_of(1), counts())[-4:],
                         [[7, 2, 1], [3, 0, 3, 0, 3, 0, 0, 2], [0, 0, 0], [3, 0, 3, 0, 3, 0, 0, 0]])
        self.assertEqual(run(*self.made, slice_of(3), counts(), slice_of(4))[-3:],
                         [[3, 1, 0], [4, 0, 4, 0, 1, 0, 3, 1], [4, 2, 1]])

    def test_at_rest_it_ends_whatever_units_are_left(self):
        self.assertEqual(run(*self.made, slice_of(8), ALL, counts())[-3:],
                         [[7, 0, 1], [6, 0, 0], [3, 0, 3, 0, 3, 0, 0, 0]])
        self.assertEqual(run(*self.made, ALL, clear(0), ALL, ALL, counts())[-5:],
                         [[7, 0, 1], [0], [3, 0, 3], [0, 0, 0], [0] * 8])

    def test_the_first_grey_one_is_next(self):
        # Cells in order: leaf, its holder, leaf, its holder; variables hold the holders. The first leaf, grey since the
        # first unit, comes ahead of the second holder, which was grey earlier.
        made = [cell(0), cell(1, 1, 0), cell(2), cell(3, 1, 2), *GROWN, clear(0), clear(2)]
        self.assertEqual(run(*made, slice_of(1), counts(), slice_of(1), counts(), slice_of(1), counts())[-6:],
                         [[1, 1, 0], [4, 0, 4, 0, 1, 2, 1, 1],
                          [1, 1, 0], [4, 0, 4, 0, 1, 1, 2, 1],
                          [1, 1, 0], [4, 0, 4, 0, 0, 1, 3, 1]])

    def test_rings_go(self):
        made = [cell(0, 0, 1), cell(1, 1, 0), put(0, 0, 1), cell(2, 0, 1), put(2, 0, 2), *GROWN]
        self.assertEqual(run(*made, ALL, clear(0), ALL, clear(1), ALL, clear(2), ALL)[-7:],
                         [[6, 0, 0], [0], [6, 0, 0], [0], [4, 0, 2], [0], [1, 0, 1]])

    def test_a_thousand_units_are_more_than_a_round_needs(self):
        self.assertEqual(run(*chain(90), *GROWN, ALL, clear(0), ALL)[-3:], [[180, 0, 0], [0], [90, 0, 90]])


class LookedAt(unittest.TestCase):
    def test_variables(self):
        for v in (0, 7, 15):
            self.assertEqual(run(cell(v), *GROWN, slice_of(1), counts())[-2:], [[1, 1, 0], [1, 0, 1, 0, 0, 0, 1, 1]])

    def test_fields_of_young_plain_cells(self):
        made = [cell(0, 0, 5), *GROWN, cell(1, 0, 1, 1, 0), clear(0)]
        self.assertEqual(run(*made, slice_of(1), counts(), ALL, get(0, 1, 1), get(0, 0, 0))[-5:],
                         [[1, 1, 0], [2, 1, 1, 0, 0, 0, 1, 1], [1, 0, 0], [1], [0, 5]])

    def test_of_a_young_one_that_nobody_holds_too(self):
        made = [cell(0), *GROWN, cell(0, 1, 0), clear(0)]
        self.assertEqual(run(*made, ALL, young(), ALL)[-3:], [[2, 0, 0], [1, 0, 0], [1, 0, 1]])

    def test_the_target_of_a_young_weak_cell_is_not(self):
        made = [cell(0), *GROWN, weak(1, 0), clear(0)]
        self.assertEqual(run(*made, ALL, held(0, 1), counts())[-3:], [[1, 0, 1], [0], [1, 1, 0, 0, 0, 0, 0, 0]])

    def test_the_value_of_a_young_keyed_cell_with_a_young_key_is_at_first(self):
        # Cells in order: the value and one that a variable holds, both old; the key and the keyed cell, both young.
        made = [cell(0, 0, 5), cell(3), *GROWN, cell(1), keyed(2, 1, 0), clear(0)]
        self.assertEqual(run(*made, slice_of(1), counts(), ALL, found(0, 2, 1), get(4, 0, 0))[-5:],
                         [[1, 1, 0], [4, 2, 2, 0, 0, 1, 1, 1], [3, 0, 0], [1], [0, 5]])

    def test_the_value_of_a_young_keyed_cell_with_an_old_key_is_only_again(self):
        # Cells in order: value, key, both old; the young keyed cell. The key is looked at by a variable.
        made = [cell(0, 0, 5), cell(1), *GROWN, keyed(2, 1, 0), clear(0)]
        self.assertEqual(run(*made, *[slice_of(1), counts()] * 3, ALL, found(0, 2, 1), get(4, 0, 0))[-9:],
                         [[1, 1, 0], [3, 1, 2, 0, 1, 0, 1, 1],
                          [1, 1, 0], [3, 1, 2, 0, 0, 0, 2, 1],
                          [1, 2, 0], [3, 1, 2, 0, 1, 0, 1, 2],
                          [1, 0, 0], [1], [0, 5]])

    def test_the_value_of_an_old_keyed_cell_is_only_again(self):
        # Cells in order: value, key, keyed cell.
        made = [cell(0, 0, 5), cell(1), keyed(2, 1, 0), *GROWN, clear(0)]
        self.assertEqual(run(*made, slice_of(2), counts(), slice_of(1), counts(), ALL, found(0, 2, 1), get(4, 0, 0))[-7:],
                         [[2, 1, 0], [3, 0, 3, 0, 1, 0, 2, 1],
                          [1, 1, 0], [3, 0, 3, 0, 0, 0, 3, 1],
                          [3, 0, 0], [1], [0, 5]])

    def test_a_keyed_cell_that_is_not_come_to_keeps_no_value(self):
        made = [cell(0), cell(1), keyed(2, 1, 0), *GROWN, clear(0), clear(2)]
        self.assertEqual(run(*made, ALL, counts())[-2:], [[4, 0, 2], [1, 0, 1, 0, 1, 0, 0, 0]])

    def test_one_value_is_the_key_of_the_next(self):
        # Values d, c, b and key a, the keyed cells a to b, b to c, c to d: each is seen when looked at anew.
        cells = [cell(4, 0, 9), cell(3), cell(2), cell(1)]
        pairs = [keyed(5, 1, 2), keyed(6, 2, 3), keyed(7, 3, 4)]
        dropped = [clear(2), clear(3), clear(4)]
        for order in ((0, 1, 2), (2, 1, 0), (1, 2, 0)):
            made = [*cells, *[pairs[at] for at in order], *GROWN, *dropped]
            self.assertEqual(run(*made, slice_of(4), counts(), slice_of(1), counts(), slice_of(2), counts())[-6:],
                             [[4, 1, 0], [7, 0, 7, 0, 3, 0, 4, 1],
                              [1, 1, 0], [7, 0, 7, 0, 2, 0, 5, 1],
                              [2, 1, 0], [7, 0, 7, 0, 0, 0, 7, 1]])
            self.assertEqual(run(*made, ALL, found(2, 5, 1), found(3, 6, 2), found(4, 7, 3), get(0, 4, 0))[-5:],
                             [[14, 0, 0], [1], [1], [1], [0, 9]])
            self.assertEqual(run(*made, clear(1), ALL, counts())[-2:], [[10, 0, 4], [3, 0, 3, 0, 3, 0, 0, 0]])

    def test_who_is_looked_at_is_settled_ahead_of_any_becoming_grey(self):
        # While it marks, variable 4 comes to hold a white key. That is looked at again, and first is grey alone:
        # the value of the black keyed cell, whose key was white when looked at, comes only at the next look.
        made = [cell(0, 0, 9), cell(1), keyed(2, 1, 0), weak(3, 1), *GROWN, clear(0), clear(1)]
        self.assertEqual(run(*made, slice_of(2), held(4, 3), counts(), slice_of(1), counts(), slice_of(1), counts())[-7:],
                         [[2, 1, 0], [1], [4, 0, 4, 0, 2, 0, 2, 1],
                          [1, 1, 0], [4, 0, 4, 0, 1, 0, 3, 1],
                          [1, 1, 0], [4, 0, 4, 0, 0, 0, 4, 1]])


class WrittenWhileItMarks(unittest.TestCase):
    # Old, in order: a holder in variable 0, one in variable 1 that holds the third. The holder is black, one is grey.
    made = [cell(2, 0, 7), clear(9), cell(0, 1, 9), cell(1, 1, 2), *GROWN, clear(2), slice_of(1)]

    def test_as_it_is_then(self):
        self.assertEqual(run(*self.made, counts())[-2:], [[1, 1, 0], [3, 0, 3, 0, 1, 1, 1, 1]])

    def test_a_black_one_comes_to_hold_a_white_one(self):
        moved = [get(2, 1, 0), put(0, 0, 2), counts(), put(1, 0, 9), clear(2), slice_of(1), counts(), ALL, shape(0)]
        self.assertEqual(run(*self.made, *moved)[-9:],
                         [[1], [0], [3, 0, 3, 0, 0, 2, 1, 1], [0], [0], [1, 1, 0], [3, 0, 3, 0, 0, 1, 2, 1],
                          [4, 0, 0], [2, 1, 0, 0, 1, 1, 1, 0, 1, 0, 7]])

    def test_it_is_grey_also_if_the_field_is_written_again(self):
        moved = [get(2, 1, 0), put(0, 0, 2), put(0, 0, 9), put(1, 0, 9), clear(2), counts(), ALL, ALL]
        self.assertEqual(run(*self.made, *moved)[-3:], [[3, 0, 3, 0, 0, 2, 1, 1], [5, 0, 0], [5, 0, 1]])

    def test_a_grey_one_comes_to_hold_a_white_one(self):
        self.assertEqual(run(*self.made, get(2, 1, 0), put(1, 0, 2), counts())[-2:], [[0], [3, 0, 3, 0, 1, 1, 1, 1]])

    def test_a_white_one_is_looked_at_again_in_a_variable(self):
        moved = [get(2, 1, 0), put(1, 0, 9), slice_of(1), counts(), slice_of(1), counts(), ALL, shape(2)]
        self.assertEqual(run(*self.made, *moved)[-6:],
                         [[1, 1, 0], [3, 0, 3, 0, 1, 0, 2, 1], [1, 1, 0], [3, 0, 3, 0, 0, 0, 3, 1], [3, 0, 0],
                          [1, 1, 0, 0, 1, 0, 7]])

    def test_a_white_one_is_looked_at_again_in_a_young_one(self):
        moved = [get(2, 1, 0), put(1, 0, 9), cell(2, 1, 2), counts(), slice_of(2), counts(), ALL, shape(2)]
        self.assertEqual(run(*self.made, *moved)[-5:],
                         [[4, 1, 3, 0, 1, 1, 1, 1], [2, 1, 0], [4, 1, 3, 0, 0, 0, 3, 1], [3, 0, 0],
                          [2, 1, 0, 0, 1, 1, 1, 0, 1, 0, 7]])

    def test_one_dropped_ahead_of_being_come_to_goes(self):
        self.assertEqual(run(*self.made, put(1, 0, 9), ALL, counts())[-2:], [[4, 0, 1], [2, 0, 2, 0, 2, 0, 0, 0]])

    def test_one_dropped_behind_it_goes_in_the_next_round(self):
        self.assertEqual(run(*self.made, slice_of(1), put(1, 0, 9), ALL, ALL)[-2:], [[4, 0, 0], [5, 0, 1]])

    def test_a_black_one_that_comes_to_hold_a_young_one_is_remembered(self):
        moved = [cell(2), put(0, 0, 2), clear(2), counts(), young(), counts(), young(), counts(), ALL, shape(0)]
        self.assertEqual(run(*self.made, *moved)[-7:],
                         [[4, 1, 3, 1, 1, 1, 1, 1], [0, 0, 1], [4, 1, 3, 1, 1, 1, 1, 1],
                          [0, 1, 0], [4, 0, 4, 0, 1, 2, 1, 1], [7, 0, 0], [2, 1, 0, 0, 1, 1, 1, 0, 0]])

    def test_at_rest_and_while_it_sweeps_no_colour_changes(self):
        # At rest all are white. While it sweeps, the first two are past and the last is black still.
        self.assertEqual(run(*self.made[:-1], get(2, 1, 0), put(0, 0, 2), counts())[-1], [3, 0, 3, 0, 3, 0, 0, 0])
        sweeps = [*self.made, slice_of(4), counts(), get(2, 1, 0), put(1, 0, 9), put(1, 0, 2), counts(), ALL, counts()]
        self.assertEqual(run(*sweeps)[-8:],
                         [[4, 2, 0], [3, 0, 3, 0, 2, 0, 1, 2], [1], [0], [0], [3, 0, 3, 0, 2, 0, 1, 2],
                          [1, 0, 0], [3, 0, 3, 0, 3, 0, 0, 0]])


class GrowingOld(unittest.TestCase):
    def test_grey_while_it_marks(self):
        made = [cell(0), *GROWN, cell(1, 1, 0), young(), slice_of(1)]
        self.assertEqual(run(*made, counts(), young(), counts(), slice_of(1), counts(), ALL)[-6:],
                         [[2, 1, 1, 0, 0, 0, 1, 1], [0, 1, 0], [2, 0, 2, 0, 0, 1, 1, 1],
                          [1, 1, 0], [2, 0, 2, 0, 0, 0, 2, 1], [2, 0, 0]])

    def test_what_it_holds_is_grey_when_it_is_come_to(self):
        # A white one that only a cell holds which becomes old while it marks.
        made = [cell(0, 0, 5), weak(1, 0), cell(2), *GROWN, clear(0), slice_of(1), held(0, 1), cell(3, 1, 0), clear(0)]
        self.assertEqual(run(*made, counts(), young(), young(), counts(), slice_of(2), counts(), ALL, shape(3))[-8:],
                         [[4, 1, 3, 0, 1, 1, 1, 1], [0, 0, 1], [0, 1, 0], [4, 0, 4, 0, 1, 2, 1, 1],
                          [2, 1, 0], [4, 0, 4, 0, 0, 1, 3, 1], [5, 0, 0], [2, 1, 0, 0, 1, 1, 1, 0, 1, 0, 5]])

    def test_dropped_ones_grow_old_too_and_go_in_the_next_round(self):
        # An old one that is remembered keeps the young one, though nobody holds it.
        made = [cell(0, 0, 1), cell(1), *GROWN, cell(2), put(0, 0, 2), clear(2), young(), slice_of(1), clear(0)]
        self.assertEqual(run(*made, young(), counts(), ALL, ALL, counts())[-5:],
                         [[0, 1, 0], [3, 0, 3, 0, 0, 2, 1, 1], [5, 0, 0], [4, 0, 2], [1, 0, 1, 0, 1, 0, 0, 0]])

    def test_black_while_it_sweeps_and_come_to_then(self):
        # Two old ones; the sweep has come to the first.
        made = [cell(0), cell(1), *GROWN, cell(2), young(), slice_of(3)]
        self.assertEqual(run(*made, counts(), young(), counts(), *[slice_of(1), counts()] * 3)[-9:],
                         [[3, 1, 2, 0, 1, 0, 1, 2], [0, 1, 0], [3, 0, 3, 0, 1, 0, 2, 2],
                          [1, 2, 0], [3, 0, 3, 0, 2, 0, 1, 2],
                          [1, 2, 0], [3, 0, 3, 0, 3, 0, 0, 2],
                          [0, 0, 0], [3, 0, 3, 0, 3, 0, 0, 0]])

    def test_also_when_the_sweep_has_come_to_all_there_were(self):
        made = [cell(0), *GROWN, cell(1), young(), slice_of(2)]
        self.assertEqual(run(*made, counts(), young(), counts(), ALL, counts())[-5:],
                         [[2, 1, 1, 0, 1, 0, 0, 2], [0, 1, 0], [2, 0, 2, 0, 1, 0, 1, 2],
                          [1, 0, 0], [2, 0, 2, 0, 2, 0, 0, 0]])

    def test_white_at_rest(self):
        made = [cell(0), *GROWN, ALL, cell(1), young()]
        self.assertEqual(run(*made, young(), counts())[-2:], [[0, 1, 0], [2, 0, 2, 0, 2, 0, 0, 0]])

    def test_while_it_sweeps_a_dropped_one_stays_until_the_next_round(self):
        made = [cell(0, 0, 1), cell(1), *GROWN, cell(2), put(0, 0, 2), clear(2), young(), slice_of(3), clear(0)]
        self.assertEqual(run(*made, young(), ALL, counts(), ALL, counts())[-5:],
                         [[0, 1, 0], [2, 0, 0], [3, 0, 3, 0, 3, 0, 0, 0], [4, 0, 2], [1, 0, 1, 0, 1, 0, 0, 0]])

    def test_a_round_ahead_of_a_new_cell_does_the_same(self):
        # 20 young ones are kept, so the next cell comes behind two rounds: all 20 become old while it marks.
        made = [cell(0), *GROWN, cell(15), clear(15), young(), slice_of(1), *chain(20, 1)]
        self.assertEqual(run(*made, counts(), cell(2), counts(), ALL)[-4:],
                         [[21, 20, 1, 0, 0, 0, 1, 1], [2], [22, 1, 21, 0, 0, 20, 1, 1], [41, 0, 0]])


class WeakCells(unittest.TestCase):
    # Old, in order: one that stays, the target, the weak cell.
    made = [cell(2), cell(0, 0, 5), weak(1, 0), last_word(0, 77), *GROWN]

    def test_a_target_that_is_held_elsewhere_stays(self):
        self.assertEqual(run(*self.made, ALL, held(3, 1), same(3, 0))[-3:], [[6, 0, 0], [1], [1]])

    def test_a_target_that_goes_is_held_no_more_when_the_sweep_begins(self):
        # At the first unit of the sweep the target is still there, and not come to any more.
        self.assertEqual(run(*self.made, clear(0), slice_of(2), counts(), slice_of(1), held(0, 1), counts(), words(),
                             slice_of(1), words(), ALL)[-9:],
                         [[2, 1, 0], [3, 0, 3, 0, 1, 0, 2, 1],
                          [1, 2, 0], [0], [3, 0, 3, 0, 2, 0, 1, 2], [0],
                          [1, 2, 1], [1, 77], [1, 0, 0]])

    def test_while_it_marks_it_can_be_come_to_by_the_weak_cell(self):
        made = [*self.made, clear(0), slice_of(2), held(0, 1)]
        self.assertEqual(run(*made, ALL, words(), get(3, 0, 0), held(4, 1))[-5:], [[1], [4, 0, 0], [0], [0, 5], [1]])
        self.assertEqual(run(*made, clear(0), ALL, words(), held(4, 1))[-3:], [[3, 0, 1], [1, 77], [0]])

    def test_a_young_weak_cell_loses_it_too(self):
        made = [cell(0), cell(2), *GROWN, weak(1, 0), clear(0)]
        self.assertEqual(run(*made, slice_of(1), held(3, 1), clear(3), slice_of(1), held(3, 1), ALL, held(3, 1))[-7:],
                         [[1, 1, 0], [1], [0], [1, 2, 1], [0], [1, 0, 0], [0]])

    def test_a_weak_cell_that_goes_itself(self):
        self.assertEqual(run(*self.made, clear(1), ALL, counts())[-2:], [[5, 0, 1], [2, 0, 2, 0, 2, 0, 0, 0]])
        self.assertEqual(run(*self.made, clear(1), clear(0), ALL, counts())[-2:],
                         [[4, 0, 2], [1, 0, 1, 0, 1, 0, 0, 0]])

    def test_a_young_target_is_no_white_one(self):
        # A target was made ahead of its weak cell, so it is young only if that is young too.
        made = [cell(2), *GROWN, cell(0), weak(1, 0), clear(0)]
        self.assertEqual(run(*made, ALL, held(3, 1))[-2:], [[2, 0, 0], [1]])
        self.assertEqual(run(*made, ALL, young(), held(3, 1))[-2:], [[1, 0, 1], [0]])

    def test_a_target_made_old_while_it_sweeps_stays_held(self):
        made = [cell(2), cell(3), *GROWN, cell(0), weak(1, 0), young(), slice_of(3), young()]
        self.assertEqual(run(*made, ALL, held(4, 1), same(4, 0), clear(0), clear(4), ALL, held(4, 1))[-7:],
                         [[3, 0, 0], [1], [1], [0], [0], [7, 0, 1], [0]])


class KeyedCells(unittest.TestCase):
    # Old, in order: the key, the value, the keyed cell. Variable 1 holds the value weakly.
    made = [cell(0), cell(4, 0, 5), keyed(3, 0, 4), weak(1, 4), last_word(0, 10), last_word(4, 20), *GROWN, clear(4)]

    def test_key_and_keyed_cell_keep_the_value(self):
        self.assertEqual(run(*self.made, ALL, found(5, 3, 0), get(6, 5, 0), words())[-4:],
                         [[8, 0, 0], [1], [0, 5], [0]])

    def test_a_key_that_goes_takes_the_value_along(self):
        self.assertEqual(run(*self.made, clear(0), ALL, words(), held(5, 1), counts())[-4:],
                         [[6, 0, 2], [2, 10, 20], [0], [2, 0, 2, 0, 2, 0, 0, 0]])

    def test_a_value_that_is_held_elsewhere_stays(self):
        made = [*self.made, held(4, 1), clear(0)]
        self.assertEqual(run(*made, ALL, words(), get(6, 4, 0), clear(4), ALL, words())[-6:],
                         [[7, 0, 1], [1, 10], [0, 5], [0], [5, 0, 1], [1, 20]])

    def test_a_keyed_cell_that_goes_takes_its_value_along_and_not_its_key(self):
        self.assertEqual(run(*self.made, clear(3), ALL, words())[-2:], [[6, 0, 2], [1, 20]])

    def test_a_value_that_holds_its_key_does_not_keep_it(self):
        made = [cell(0), cell(4, 1, 0), keyed(3, 0, 4), *GROWN, clear(4)]
        self.assertEqual(run(*made, ALL, clear(0), ALL)[-3:], [[6, 0, 0], [0], [4, 0, 2]])

    def test_a_young_keyed_cell_loses_an_old_key(self):
        made = [cell(0), cell(4, 0, 5), *GROWN, keyed(3, 0, 4)]
        self.assertEqual(run(*made, clear(4), ALL, found(5, 3, 0), get(6, 5, 0))[-3:], [[4, 0, 0], [1], [0, 5]])
        self.assertEqual(run(*made, clear(4), clear(0), ALL, counts())[-2:], [[2, 0, 2], [1, 1, 0, 0, 0, 0, 0, 0]])

    def test_a_young_value_of_a_key_that_goes(self):
        # The cell has neither key nor value from then on, so the value goes in the next round of the young.
        made = [cell(0), *GROWN, cell(4), keyed(3, 0, 4), clear(4), clear(0)]
        self.assertEqual(run(*made, young(), ALL, young(), counts())[-4:],
                         [[0, 0, 2], [1, 0, 1], [1, 1, 0], [1, 0, 1, 0, 1, 0, 0, 0]])

    def test_a_number_as_its_value(self):
        made = [cell(0), num(4, 6), keyed(3, 0, 4), *GROWN]
        self.assertEqual(run(*made, ALL, found(5, 3, 0), shape(5))[-3:], [[4, 0, 0], [1], [0, 0, 6]])
        self.assertEqual(run(*made, clear(0), ALL, cell(0), found(5, 3, 0), shape(5))[-4:],
                         [[3, 0, 1], [0], [0], [0, 2]])

    def test_a_key_got_back_while_it_marks(self):
        # A weak cell still holds the key; with the key the value stays as well.
        made = [*self.made, weak(2, 0), *GROWN, clear(0), slice_of(3)]
        self.assertEqual(run(*made, held(0, 2), ALL, found(5, 3, 0), get(6, 5, 0), words())[-6:],
                         [[3, 1, 0], [1], [7, 0, 0], [1], [0, 5], [0]])
        self.assertEqual(run(*made, ALL, held(0, 2), words())[-3:], [[5, 0, 2], [0], [2, 10, 20]])


class WhatIsSwept(unittest.TestCase):
    def test_one_let_go_is_not_remembered_any_more(self):
        made = [cell(0, 0, 1), *GROWN, cell(1), put(0, 0, 1), clear(0), clear(1)]
        self.assertEqual(run(*made, counts(), slice_of(1), counts(), young(), counts())[-5:],
                         [[2, 1, 1, 1, 1, 0, 0, 0], [1, 2, 1], [1, 1, 0, 0, 0, 0, 0, 2],
                          [1, 0, 0], [0, 0, 0, 0, 0, 0, 0, 2]])

    def test_one_that_stays_is_remembered_still(self):
        made = [cell(0, 0, 1), *GROWN, cell(1), put(0, 0, 1), clear(1)]
        self.assertEqual(run(*made, ALL, counts(), young(), shape(0))[-4:],
                         [[2, 0, 0], [2, 1, 1, 1, 1, 0, 0, 0], [0, 0, 1], [2, 1, 0, 0, 1, 1, 1, 0, 0]])

    def test_last_words_come_unit_by_unit(self):
        made = []
        for v, z in ((0, 30), (1, 10), (2, 20)):
            made += [cell(v), last_word(v, z)]
        made += [*GROWN, clear(0), clear(1), clear(2)]
        self.assertEqual(run(*made, *[slice_of(1), words()] * 3, slice_of(1), counts())[-8:],
                         [[1, 2, 1], [1, 30], [1, 2, 1], [1, 10], [1, 2, 1], [1, 20], [0, 0, 0], [0] * 8])
        self.assertEqual(run(*made, slice_of(2), slice_of(2), words())[-3:], [[2, 2, 2], [1, 0, 1], [3, 30, 10, 20]])

    def test_a_word_changed_while_it_sweeps_is_the_one_told(self):
        # What is dropped while it sweeps goes in the next round.
        made = [cell(0), cell(1), last_word(1, 5), *GROWN, slice_of(3), last_word(1, 6), clear(1)]
        self.assertEqual(run(*made, ALL, words(), ALL, words())[-4:], [[1, 0, 0], [0], [3, 0, 1], [1, 6]])

    def test_cells_made_while_it_sweeps_are_young_and_stay(self):
        made = [cell(0), cell(1), *GROWN, clear(0), slice_of(2)]
        self.assertEqual(run(*made, cell(2, 1, 1), weak(3, 2), keyed(4, 2, 3), counts(), ALL, counts(), shape(2))[-4:],
                         [[4, 3, 1, 0, 0, 0, 1, 2], [1, 0, 0], [4, 3, 1, 0, 1, 0, 0, 0],
                          [2, 1, 0, 0, 1, 1, 1, 0, 0]])

    def test_moves_between_slices_lose_nothing(self):
        # A leaf is handed from field to field, one unit of work between: it is there in the end.
        made = [cell(5, 0, 3), cell(0, 1, 5), cell(1, 0, 0), cell(2, 0, 0), cell(3, 0, 0), *GROWN, clear(5)]
        moved = []
        for at in range(8):
            moved += [get(5, at % 4, 0), put((at + 1) % 4, 0, 5), put(at % 4, 0, 6), move(5, 6), slice_of(1)]
        self.assertEqual(last(*made, *moved, shape(0)), [2, 1, 0, 0, 1, 1, 1, 0, 1, 0, 3])


if __name__ == "__main__":
    unittest.main()
