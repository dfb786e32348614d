"""What found, last, words, young, counts, shape and same answer and change, with their whole answers."""

import unittest

from tests.helper import GROWN
from tests.helper import cell, chain, churn, clear, counts, found, get, held, keyed, last, last_word, move, num, put
from tests.helper import run, same, shape, slice_of, weak, words, young


class Found(unittest.TestCase):
    def test_the_value_of_its_key(self):
        made = [cell(0), cell(1, 0, 7), keyed(2, 0, 1), found(3, 2, 0)]
        self.assertEqual(run(*made, same(3, 1), shape(3)), [[0], [0], [0], [1], [1], [1, 1, 0, 0, 1, 0, 7]])

    def test_the_variable_holds_nothing_if_it_is_another(self):
        made = [cell(0), cell(1), keyed(2, 0, 1), num(3, 5)]
        self.assertEqual(run(*made, found(3, 2, 1), shape(3))[-2:], [[0], [0, 2]])
        self.assertEqual(run(*made, found(3, 2, 2), shape(3))[-2:], [[0], [0, 2]])

    def test_the_very_cell_is_asked_for_not_one_like_it(self):
        self.assertEqual(last(cell(0, 0, 1), cell(1, 0, 1), keyed(2, 0, 0), found(3, 2, 1)), [0])

    def test_values_of_each_sort(self):
        for value, told in ((num(1, -6), [0, 0, -6]), (clear(1), [0, 2]), (weak(1, 0), [1, 1, 0, 1]),
                            (keyed(1, 0, 0), [1, 1, 0, 2]), (move(1, 0), [1, 1, 0, 0, 0])):
            self.assertEqual(run(cell(0), value, keyed(2, 0, 1), num(3, 9), found(3, 2, 0), shape(3))[-2:], [[1], told])

    def test_keys_of_each_kind(self):
        for key in (cell(0), weak(0, 9), keyed(0, 9, 9)):
            self.assertEqual(run(cell(9), key, num(1, 4), keyed(2, 0, 1), found(3, 2, 0), shape(3))[-2:],
                             [[1], [0, 0, 4]])

    def test_a_keyed_cell_may_be_asked_for_itself(self):
        self.assertEqual(run(cell(0), keyed(1, 0, 0), found(2, 1, 1), found(2, 1, 0), same(2, 0))[-3:], [[0], [1], [1]])

    def test_into_the_variables_it_reads(self):
        made = [cell(0), num(1, 4), keyed(2, 0, 1)]
        self.assertEqual(run(*made, found(2, 2, 0), shape(2))[-2:], [[1], [0, 0, 4]])
        self.assertEqual(run(*made, found(0, 2, 0), shape(0))[-2:], [[1], [0, 0, 4]])
        self.assertEqual(run(*made, cell(0), found(2, 2, 0), shape(2))[-2:], [[0], [0, 2]])

    def test_the_pair_stays_in_the_cell(self):
        made = [cell(0), num(1, 4), keyed(2, 0, 1), num(1, 5)]
        self.assertEqual(run(*made, found(3, 2, 0), found(3, 2, 2), found(4, 2, 0), shape(4))[-4:],
                         [[1], [0], [1], [0, 0, 4]])

    def test_no_other_cell_is_found_where_the_key_is_gone(self):
        for gone in ([young()], [*GROWN, slice_of(1000)]):
            made = [cell(0), num(1, 4), keyed(2, 0, 1), clear(0)]
            self.assertEqual(run(*made, *gone, cell(0), found(3, 2, 0), found(3, 2, 2), shape(3))[-3:],
                             [[0], [0], [0, 2]])

    def test_what_is_found_is_kept_from_then_on(self):
        made = [cell(0), cell(1), weak(4, 1), keyed(2, 0, 1), clear(1), found(3, 2, 0), clear(2), clear(0)]
        self.assertEqual(last(*made, young(), held(5, 4)), [1])


class LastAndWords(unittest.TestCase):
    def test_none_at_the_beginning(self):
        self.assertEqual(run(words(), words()), [[0], [0]])

    def test_a_last_word_is_told_once(self):
        calls = [cell(0), last_word(0, 7), words(), clear(0), words(), young(), words(), words()]
        self.assertEqual(run(*calls), [[0], [0], [0], [0], [0], [1, 0, 0], [1, 7], [0]])

    def test_the_word_set_last_is_the_only_one(self):
        calls = [cell(0), last_word(0, 7), last_word(0, 8), last_word(0, 9), clear(0), young(), words()]
        self.assertEqual(last(*calls), [1, 9])

    def test_words_at_the_edges(self):
        for z in (-1000000000, -1, 0, 1, 1000000000):
            self.assertEqual(run(cell(0), last_word(0, z), clear(0), young(), words())[1:], [[0], [0], [1, 0, 0], [1, z]])

    def test_cells_of_each_kind_have_one(self):
        made = [cell(0), weak(1, 0), keyed(2, 0, 0), last_word(2, 30), last_word(0, 10), last_word(1, 20)]
        self.assertEqual(run(*made, clear(0), clear(1), clear(2), young(), words())[-2:], [[3, 0, 0], [3, 10, 20, 30]])

    def test_those_without_one_tell_nothing(self):
        made = [cell(0), cell(1), cell(2), last_word(1, 5)]
        self.assertEqual(run(*made, clear(0), clear(1), clear(2), young(), words())[-2:], [[3, 0, 0], [1, 5]])

    def test_words_that_are_alike_are_told_each(self):
        made = [cell(0), last_word(0, 5), cell(0), last_word(0, 5), clear(0)]
        self.assertEqual(last(*made, young(), words()), [2, 5, 5])

    def test_a_kept_cell_tells_nothing(self):
        self.assertEqual(last(cell(0), last_word(0, 5), *GROWN, slice_of(1000), slice_of(1000), words()), [0])

    def test_a_round_ahead_of_a_new_cell_tells_them_too(self):
        made = [cell(0), last_word(0, 5), *churn(19, 0)]
        self.assertEqual(run(*made, words(), cell(0), words())[-3:], [[0], [1], [1, 5]])

    def test_in_the_order_in_which_they_were_told(self):
        # 1 and 2 grow old, 3 and 4 are young when they go: first the young in their order, then the old in theirs.
        made = [cell(0), last_word(0, 1), cell(1), last_word(1, 2), *GROWN, clear(0), clear(1),
                cell(0), last_word(0, 3), cell(0), last_word(0, 4), clear(0)]
        self.assertEqual(run(*made, young(), slice_of(1000), words())[-3:], [[2, 0, 0], [2, 0, 2], [4, 3, 4, 1, 2]])
        self.assertEqual(run(*made, slice_of(1000), young(), words())[-3:], [[2, 0, 2], [2, 0, 0], [4, 1, 2, 3, 4]])
        self.assertEqual(run(*made, slice_of(1), young(), words(), slice_of(1), words())[-5:],
                         [[1, 2, 1], [2, 0, 0], [3, 1, 3, 4], [1, 2, 1], [1, 2]])

    def test_an_old_cell_may_be_given_one(self):
        made = [cell(0), last_word(0, 1), *GROWN, last_word(0, 6), clear(0)]
        self.assertEqual(run(*made, slice_of(1000), words())[-2:], [[1, 0, 1], [1, 6]])

    def test_a_word_keeps_nothing(self):
        self.assertEqual(run(cell(0), last_word(0, 5), weak(1, 0), clear(0), young(), held(0, 1))[-2:], [[1, 0, 1], [0]])


class Young(unittest.TestCase):
    def test_no_cells(self):
        self.assertEqual(run(young(), young()), [[0, 0, 0], [0, 0, 0]])

    def test_first_seasoned_then_old(self):
        self.assertEqual(run(cell(0), young(), young(), young())[1:], [[0, 0, 1], [0, 1, 0], [0, 0, 0]])

    def test_some_of_each(self):
        # Two are kept and seasoned, one goes; then one of these is dropped, one is new.
        made = [cell(0), cell(1), cell(2), clear(2)]
        self.assertEqual(run(*made, young(), clear(1), cell(3), young(), counts())[-5:],
                         [[1, 0, 2], [0], [0], [1, 1, 1], [2, 1, 1, 0, 1, 0, 0, 0]])

    def test_there_is_one_round_whatever_is_young(self):
        self.assertEqual(run(*chain(20), young(), young())[-2:], [[0, 0, 20], [0, 20, 0]])

    def test_old_ones_are_not_let_go(self):
        self.assertEqual(run(cell(0), *GROWN, clear(0), young(), counts())[-2:],
                         [[0, 0, 0], [1, 0, 1, 0, 1, 0, 0, 0]])

    def test_a_round_counts_for_the_next_cell(self):
        self.assertEqual(run(*churn(20), young(), cell(0))[-2:], [[19, 0, 1], [0]])


class Remembered(unittest.TestCase):
    # Variable 0: an old cell with one field; variable 1: a young one.
    made = [cell(0, 0, 1), *GROWN, cell(1)]

    def test_an_old_cell_that_comes_to_hold_a_young_one(self):
        self.assertEqual(run(*self.made, counts(), put(0, 0, 1), counts(), put(0, 0, 9), counts())[-5:],
                         [[2, 1, 1, 0, 1, 0, 0, 0], [0], [2, 1, 1, 1, 1, 0, 0, 0], [0], [2, 1, 1, 1, 1, 0, 0, 0]])

    def test_behind_a_round_just_those_that_hold_a_young_one(self):
        self.assertEqual(run(*self.made, put(0, 0, 1), put(0, 0, 9), young(), counts())[-2:],
                         [[0, 0, 1], [2, 1, 1, 0, 1, 0, 0, 0]])
        self.assertEqual(run(*self.made, put(0, 0, 1), clear(1), young(), counts(), young(), counts())[-4:],
                         [[0, 0, 1], [2, 1, 1, 1, 1, 0, 0, 0], [0, 1, 0], [2, 0, 2, 0, 2, 0, 0, 0]])

    def test_one_that_becomes_old_with_a_young_one_in_a_field(self):
        made = [cell(0, 0, 1), young(), cell(1), put(0, 0, 1), clear(1)]
        self.assertEqual(run(*made, counts(), young(), counts(), clear(0), young(), counts())[-6:],
                         [[2, 2, 0, 0, 0, 0, 0, 0], [0, 1, 1], [2, 1, 1, 1, 1, 0, 0, 0],
                          [0], [0, 1, 0], [2, 0, 2, 0, 2, 0, 0, 0]])

    def test_a_remembered_cell_that_nobody_holds_keeps_still(self):
        self.assertEqual(run(*self.made, put(0, 0, 1), clear(0), clear(1), young(), counts())[-2:],
                         [[0, 0, 1], [2, 1, 1, 1, 1, 0, 0, 0]])

    def test_once_it_holds_the_young_one_no_more_that_goes(self):
        self.assertEqual(run(*self.made, put(0, 0, 1), clear(1), put(0, 0, 1), young(), counts())[-2:],
                         [[1, 0, 0], [1, 0, 1, 0, 1, 0, 0, 0]])

    def test_weak_and_keyed_cells_are_not(self):
        made = [cell(0), weak(1, 0), keyed(2, 0, 0)]
        self.assertEqual(last(*made, *GROWN, counts()), [3, 0, 3, 0, 3, 0, 0, 0])
        self.assertEqual(last(cell(0), weak(1, 0), *GROWN, cell(3), weak(4, 3), keyed(5, 0, 3), counts()),
                         [5, 3, 2, 0, 2, 0, 0, 0])


class Counts(unittest.TestCase):
    def test_no_cells(self):
        self.assertEqual(run(counts()), [[0, 0, 0, 0, 0, 0, 0, 0]])

    def test_young_ones_have_no_colour(self):
        made = [cell(0), weak(1, 0), keyed(2, 0, 1), clear(2)]
        self.assertEqual(run(*made, counts(), young(), counts())[-3:],
                         [[3, 3, 0, 0, 0, 0, 0, 0], [1, 0, 2], [2, 2, 0, 0, 0, 0, 0, 0]])

    def test_nothing_changes(self):
        made = [cell(0, 0, 1), *GROWN, cell(1), put(0, 0, 1), slice_of(1)]
        self.assertEqual(run(*made, counts(), counts(), young(), counts())[-4:],
                         [[2, 1, 1, 1, 0, 0, 1, 1], [2, 1, 1, 1, 0, 0, 1, 1], [0, 0, 1], [2, 1, 1, 1, 0, 0, 1, 1]])


class Shape(unittest.TestCase):
    def test_what_is_no_cell(self):
        self.assertEqual(run(shape(3)), [[0, 2]])
        for z in (-1000000000, 0, 5):
            self.assertEqual(last(num(3, z), shape(3)), [0, 0, z])

    def test_one_cell_of_each_kind(self):
        made = [cell(0), weak(1, 0), keyed(2, 0, 0)]
        self.assertEqual(run(*made, shape(0), shape(1), shape(2))[-3:], [[1, 1, 0, 0, 0], [1, 1, 0, 1], [1, 1, 0, 2]])

    def test_fields_of_each_sort(self):
        made = [cell(0), weak(1, 0), keyed(2, 0, 0), cell(3, 0, -4, 1, 9, 1, 0, 1, 1, 1, 2, 1, 0)]
        self.assertEqual(last(*made, shape(3)), [4, 1, 0, 0, 6, 0, -4, 2, 1, 1, 1, 2, 1, 3, 1, 1, 0, 0, 1, 2])

    def test_breadth_first_those_of_one_cell_in_its_fields_order(self):
        # 0 holds 1 and 2; 1 holds 3; 2 holds 4 and 3. The fields tell who is who.
        made = [cell(4, 0, 44), cell(3, 0, 33), cell(2, 1, 4, 1, 3), cell(1, 1, 3), cell(0, 1, 1, 1, 2)]
        self.assertEqual(last(*made, shape(0)),
                         [5, 1, 0, 0, 2, 1, 1, 1, 2, 0, 1, 1, 3, 0, 2, 1, 4, 1, 3, 0, 1, 0, 33, 0, 1, 0, 44])

    def test_rings(self):
        self.assertEqual(last(cell(0, 0, 1), put(0, 0, 0), shape(0)), [1, 1, 0, 0, 1, 1, 0])
        self.assertEqual(last(cell(0, 0, 1), cell(1, 1, 0), put(0, 0, 1), shape(1)), [2, 1, 0, 0, 1, 1, 1, 0, 1, 1, 0])

    def test_weak_and_keyed_cells_are_seen_and_not_what_they_hold(self):
        made = [cell(0), cell(1), weak(2, 0), keyed(3, 0, 1), cell(4, 1, 3, 1, 2)]
        self.assertEqual(last(*made, shape(4)), [3, 1, 0, 0, 2, 1, 1, 1, 2, 2, 1])

    def test_it_tells_them_the_same_when_they_are_emptied(self):
        made = [cell(0), weak(2, 0), keyed(3, 0, 0), cell(4, 1, 3, 1, 2), clear(0)]
        self.assertEqual(run(*made, young(), shape(4))[-2:], [[1, 0, 3], [3, 1, 0, 0, 2, 1, 1, 1, 2, 2, 1]])

    def test_nothing_changes(self):
        made = [cell(0), cell(1, 1, 0), clear(0)]
        self.assertEqual(run(*made, shape(1), shape(1), shape(0), young())[-4:],
                         [[2, 1, 0, 0, 1, 1, 1, 0, 0], [2, 1, 0, 0, 1, 1, 1, 0, 0], [0, 2], [0, 0, 2]])

    def test_sixty_are_told(self):
        told = [60, 1, 0]
        for place in range(1, 60):
            told += [0, 1, 1, place]
        self.assertEqual(last(*chain(60), shape(0)), told + [0, 1, 2])

    def test_the_same_ahead_of_and_behind_rounds(self):
        made = [cell(0, 0, 5), cell(1, 1, 0, 1, 9), put(1, 1, 1), weak(0, 1), cell(2, 1, 0, 1, 1, 0, 8)]
        told = [4, 1, 0, 0, 3, 1, 1, 1, 2, 0, 8, 1, 0, 2, 1, 3, 1, 2, 0, 1, 0, 5]
        rounds = [young(), slice_of(2), young(), slice_of(1), slice_of(1), young(), slice_of(3), slice_of(1000)]
        for many in range(len(rounds) + 1):
            self.assertEqual(last(*made, *rounds[:many], shape(2)), told)


class Same(unittest.TestCase):
    def test_the_same_cell(self):
        for make in (cell(0), weak(0, 9), keyed(0, 9, 9)):
            self.assertEqual(run(cell(9), make, move(1, 0), same(0, 1), same(1, 0), same(0, 0))[-3:], [[1], [1], [1]])

    def test_another_cell_like_it(self):
        self.assertEqual(last(cell(0, 0, 1), cell(1, 0, 1), same(0, 1)), [0])
        self.assertEqual(last(cell(0), weak(1, 0), weak(2, 0), same(1, 2)), [0])

    def test_numbers_and_nothing_are_no_cells(self):
        self.assertEqual(run(num(0, 3), num(1, 3), same(0, 1), same(0, 0), same(2, 3), same(2, 2))[2:], [[0]] * 4)
        self.assertEqual(run(cell(0), num(1, 0), same(0, 1), same(1, 0), same(0, 2), same(2, 0))[2:], [[0]] * 4)

    def test_through_fields_targets_and_values(self):
        made = [cell(0), cell(1, 1, 0), weak(2, 0), keyed(3, 1, 0), get(4, 1, 0), held(5, 2), found(6, 3, 1)]
        rounds = [*GROWN, slice_of(1000)]
        self.assertEqual(run(*made, same(0, 4), same(5, 0), same(4, 6), *rounds, same(0, 6), same(0, 1))[-8:],
                         [[1], [1], [1], [0, 0, 4], [0, 4, 0], [8, 0, 0], [1], [0]])


if __name__ == "__main__":
    unittest.main()
