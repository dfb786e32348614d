"""The refusals -1, -3, -4, -6 and -7: when they come, which comes first, and that nothing changes."""

import unittest

from tests.helper import GROWN, LEAST, MOST
from tests.helper import cell, chain, churn, clear, counts, found, get, held, keyed, last, last_word, move, num, put
from tests.helper import run, same, shape, slice_of, weak, words, young

# Variable 0: a plain cell; 1: a weak one; 2: a keyed one; 3: a number; 4: nothing.
ALL_SORTS = [cell(0, 0, 5, 0, 6), weak(1, 0), keyed(2, 0, 0), num(3, 9)]
NO_VARIABLES = (LEAST, -2, -1, 16, 17, 1000, MOST)
NOT_HELD = (LEAST, -1000000001, 1000000001, MOST)
NO_UNITS = (LEAST, -1000, -1, 0, 1001, 2000, MOST)

# 150 cells, 20 of them young. Ten that nobody keeps set the rounds on, so that from then on each lets ten grow old.
FULL = churn(10, 15) + [clear(15)] + chain(150, 0)


class NoVariable(unittest.TestCase):
    def test_of_every_call_and_each_of_its_variables(self):
        for n in NO_VARIABLES:
            for call in (cell(n), cell(n, 0, 1), num(n, 1), move(n, 0), move(0, n), clear(n),
                         get(n, 0, 0), get(0, n, 0), put(n, 0, 0), put(0, 0, n), weak(n, 0), weak(0, n),
                         held(n, 1), held(0, n), keyed(n, 0, 0), keyed(0, n, 0), keyed(0, 0, n),
                         found(n, 2, 0), found(0, n, 0), found(0, 2, n), last_word(n, 1), shape(n),
                         same(n, 0), same(0, n), same(n, n)):
                self.assertEqual(last(*ALL_SORTS, call), [-1], call)

    def test_0_and_15_are_variables(self):
        for n in (0, 15):
            calls = [cell(n, 1, n), cell(n, 0, 1), num(5, 4), put(n, 0, 5), get(6, n, 0), move(n, n), weak(7, n),
                     move(n, 7), held(n, n), keyed(8, n, n), keyed(n, n, n), num(n, 1), clear(n)]
            self.assertEqual(run(*calls), [[0], [0], [0], [0], [0, 4], [0], [0], [0], [1], [0], [0], [0], [0]])
            calls = [cell(n), keyed(5, n, n), last_word(n, 1), same(n, n), shape(n), found(n, 5, n), found(6, 5, n),
                     move(n, 5), found(7, n, 6)]
            self.assertEqual(run(*calls), [[0], [0], [0], [1], [1, 1, 0, 0, 0], [1], [1], [0], [1]])

    def test_a_fields_number_is_no_variable(self):
        self.assertEqual(last(*ALL_SORTS, get(5, 0, 16)), [-4])
        self.assertEqual(last(*ALL_SORTS, put(0, -1, 0)), [-4])

    def test_units_and_last_words_are_no_variables(self):
        self.assertEqual(run(*ALL_SORTS, last_word(0, 16), last_word(0, -1), slice_of(16))[-3:], [[0], [0], [0, 0, 0]])


class NotAsTold(unittest.TestCase):
    def test_num_beyond_what_may_be_held(self):
        for z in NOT_HELD:
            self.assertEqual(run(num(0, z), cell(1, 1, 0), get(2, 1, 0)), [[-1], [0], [2]])

    def test_last_beyond_what_may_be_held(self):
        for z in NOT_HELD:
            for u in (0, 1, 2):
                self.assertEqual(last(*ALL_SORTS, last_word(u, z)), [-1])

    def test_slice_of_too_few_or_too_many_units(self):
        for n in NO_UNITS:
            self.assertEqual(last(slice_of(n)), [-1])
            self.assertEqual(last(cell(0), *GROWN, slice_of(1), slice_of(n)), [-1])
        for n in (1, 2, 999, 1000):
            self.assertEqual(last(slice_of(n)), [0, 0, 0])

    def test_a_fields_number_beyond_what_may_be_held(self):
        for z in NOT_HELD:
            self.assertEqual(last(cell(0, 0, z)), [-1])
            self.assertEqual(last(cell(0, 0, 1, 0, z)), [-1])
            self.assertEqual(last(cell(0, 0, z, 0, 1)), [-1])

    def test_a_fields_variable(self):
        for n in NO_VARIABLES:
            self.assertEqual(last(cell(0, 1, n)), [-1])
            self.assertEqual(last(cell(0, 0, 1, 1, n)), [-1])
        self.assertEqual(last(cell(0, 1, 0, 1, 15)), [0])

    def test_neither_0_nor_1_ahead(self):
        for way in (LEAST, -1, 2, 3, MOST):
            self.assertEqual(last(cell(0, way, 1)), [-1])
            self.assertEqual(last(cell(0, 0, 1, way, 1)), [-1])

    def test_an_odd_count(self):
        for count in (1, 3, 5, 11, 13, 39):
            self.assertEqual(last(cell(0, *[0] * count)), [-1])

    def test_six_and_seven_fields(self):
        self.assertEqual(last(cell(0, *[0] * 12)), [0])
        self.assertEqual(last(cell(0, *[0] * 14)), [-1])
        self.assertEqual(last(cell(0, *[0] * 40)), [-1])


class NoSuchCell(unittest.TestCase):
    def test_get_and_set_want_a_plain_cell(self):
        for u in (1, 2, 3, 4):
            self.assertEqual(last(*ALL_SORTS, get(5, u, 0)), [-3])
            self.assertEqual(last(*ALL_SORTS, put(u, 0, 0)), [-3])

    def test_weak_and_keyed_want_a_cell(self):
        for u in (3, 4):
            self.assertEqual(last(*ALL_SORTS, weak(5, u)), [-3])
            self.assertEqual(last(*ALL_SORTS, keyed(5, u, 0)), [-3])
        for u in (0, 1, 2):
            self.assertEqual(last(*ALL_SORTS, weak(5, u)), [0])
            self.assertEqual(last(*ALL_SORTS, keyed(5, u, 4)), [0])

    def test_held_wants_a_weak_cell(self):
        for u in (0, 2, 3, 4):
            self.assertEqual(last(*ALL_SORTS, held(5, u)), [-3])

    def test_found_wants_a_keyed_cell(self):
        for u in (0, 1, 3, 4):
            for k in range(5):
                self.assertEqual(last(*ALL_SORTS, found(5, u, k)), [-3])

    def test_found_wants_a_cell_to_ask_for(self):
        for k in (3, 4):
            self.assertEqual(last(*ALL_SORTS, found(5, 2, k)), [-3])
        for k, answer in ((0, [1]), (1, [0]), (2, [0])):
            self.assertEqual(last(*ALL_SORTS, found(5, 2, k)), answer)

    def test_found_wants_one_also_where_there_is_no_key_any_more(self):
        emptied = [cell(0), keyed(2, 0, 0), clear(0), young()]
        self.assertEqual(run(*emptied, found(5, 2, 0), found(5, 2, 2))[-2:], [[-3], [0]])

    def test_last_wants_a_cell(self):
        for u in (3, 4):
            self.assertEqual(last(*ALL_SORTS, last_word(u, 1)), [-3])
        for u in (0, 1, 2):
            self.assertEqual(last(*ALL_SORTS, last_word(u, 1)), [0])

    def test_shape_and_same_take_whatever_is_held(self):
        for u in range(5):
            self.assertGreaterEqual(last(*ALL_SORTS, shape(u))[0], 0)
            for v in range(5):
                self.assertEqual(last(*ALL_SORTS, same(u, v)), [1] if u == v < 3 else [0])


class NoSuchField(unittest.TestCase):
    def test_the_edges(self):
        for i, answer in ((LEAST, [-4]), (-1, [-4]), (0, [0, 5]), (1, [0, 6]), (2, [-4]), (MOST, [-4])):
            self.assertEqual(last(*ALL_SORTS, get(5, 0, i)), answer)
            self.assertEqual(last(*ALL_SORTS, put(0, i, 3)), answer[:1])

    def test_of_none_and_of_six(self):
        self.assertEqual(run(cell(0), get(1, 0, 0), get(1, 0, -1), put(0, 0, 0)), [[0], [-4], [-4], [-4]])
        self.assertEqual(run(cell(0, *[0] * 12), get(1, 0, 5), get(1, 0, 6), put(0, 5, 0), put(0, 6, 0))[1:],
                         [[0, 0], [-4], [0], [-4]])


class NoRoom(unittest.TestCase):
    def test_the_150th_is_made_and_no_more(self):
        given = run(*FULL, cell(5), weak(6, 0), keyed(7, 0, 0))
        self.assertTrue(all(answer[0] >= 0 for answer in given[:-3]))
        self.assertEqual(given[-3:], [[-6], [-6], [-6]])

    def test_told_ahead_of_any_round(self):
        # A round would let go of all 20 young ones here.
        for call in (cell(5), weak(6, 1), keyed(7, 1, 1)):
            self.assertEqual(run(*FULL[:-20], move(1, 0), *FULL[-20:], clear(0), call, call)[-2:], [[-6], [-6]])

    def test_the_150th_of_each_kind_is_made(self):
        for call in (cell(5), weak(6, 0), keyed(7, 0, 0)):
            self.assertEqual(run(*FULL[:-1], call, call)[-2:], [[0], [-6]])

    def test_the_other_calls_go_on(self):
        self.assertEqual(run(*FULL, get(1, 0, 0), put(0, 0, 1), move(2, 1), num(3, 4), clear(3))[-5:],
                         [[1], [0], [0], [0], [0]])
        self.assertEqual(run(*FULL, last_word(0, 4), shape(9), same(0, 0), counts(), young(), slice_of(1), words())[-7:],
                         [[0], [0, 2], [1], [150, 20, 130, 0, 130, 0, 0, 0], [0, 10, 10], [1, 1, 0], [0]])

    def test_there_is_room_again_behind_rounds(self):
        self.assertEqual(run(*FULL, clear(0), cell(1), young(), cell(1))[-3:], [[-6], [20, 0, 0], [0]])
        self.assertEqual(run(*FULL, *GROWN, clear(0), cell(1), slice_of(1), cell(1))[-3:], [[-6], [1, 2, 1], [0]])


class TooManySeen(unittest.TestCase):
    def test_60_are_told_and_61_are_not(self):
        self.assertEqual(last(*chain(60), shape(0))[:5], [60, 1, 0, 0, 1])
        for many in (61, 62, 90):
            self.assertEqual(last(*chain(many), shape(0)), [-7])

    def test_cells_of_each_kind_count(self):
        for call in (cell(1), weak(1, 0), keyed(1, 0, 0)):
            self.assertEqual(last(*chain(58), call, cell(0, 1, 0, 1, 1), shape(0))[0], 60)
            self.assertEqual(last(*chain(59), call, cell(0, 1, 0, 1, 1), shape(0)), [-7])

    def test_what_is_not_seen_does_not_count(self):
        self.assertEqual(last(*chain(90), weak(1, 0), shape(1)), [1, 1, 0, 1])
        self.assertEqual(last(*chain(90), keyed(1, 0, 0), shape(1)), [1, 1, 0, 2])
        self.assertEqual(last(*chain(90), cell(1), shape(1)), [1, 1, 0, 0, 0])

    def test_each_counts_once(self):
        self.assertEqual(last(*[cell(0, 1, 0, 1, 0, 1, 0)] * 60, shape(0))[0], 60)

    def test_nothing_changes(self):
        self.assertEqual(run(*chain(61), shape(0), counts(), same(0, 0), get(0, 0, 0), shape(0))[-5:-1],
                         [[-7], [61, 1, 60, 0, 60, 0, 0, 0], [1], [1]])


class TheOneToldFirst(unittest.TestCase):
    def test_1_ahead_of_3_and_4(self):
        for call in (get(16, 4, 0), get(16, 0, 9), put(4, 0, 16), put(0, 9, 16), weak(16, 4), held(16, 4),
                     keyed(16, 4, 0), keyed(0, 4, 16), found(16, 4, 4), found(16, 2, 4), found(16, 0, 0),
                     found(5, 0, 16), found(5, -1, 4), last_word(4, MOST), last_word(3, LEAST), last_word(16, MOST)):
            self.assertEqual(last(*ALL_SORTS, call), [-1])

    def test_3_ahead_of_4(self):
        for call in (get(5, 4, -1), get(5, 1, 1), get(5, 2, 2), put(3, 9, 0), put(1, 1, 0)):
            self.assertEqual(last(*ALL_SORTS, call), [-3])

    def test_1_and_3_ahead_of_6(self):
        for call in (cell(16), cell(5, 0), cell(5, 1, 16), cell(5, 0, MOST), cell(5, *[0] * 14),
                     weak(16, 0), weak(0, -1), weak(16, 9), keyed(16, 0, 0), keyed(0, 9, 16)):
            self.assertEqual(last(*FULL, call), [-1])
        for call in (weak(5, 9), keyed(5, 9, 0), keyed(5, 9, 9)):
            self.assertEqual(last(*FULL, call), [-3])


class NothingChanges(unittest.TestCase):
    def test_the_variable_stays(self):
        for call in (cell(3, 0), cell(3, 0, MOST), num(3, MOST), move(3, 16), get(3, 16, 0), get(3, 4, 0), get(3, 0, 2),
                     weak(3, 3), weak(3, 16), held(3, 0), held(3, 16), keyed(3, 4, 0), keyed(3, 0, 16),
                     found(3, 0, 0), found(3, 2, 4), found(3, 16, 0), found(3, 2, 16), last_word(3, 1), shape(16)):
            self.assertEqual(run(*ALL_SORTS, call, cell(5, 1, 3), get(6, 5, 0))[-2:], [[0], [0, 9]])

    def test_the_fields_stay(self):
        for call in (put(0, 2, 3), put(0, -1, 3), put(0, 0, 16), put(0, 1, -1), put(1, 0, 3), put(2, 1, 3)):
            self.assertEqual(run(*ALL_SORTS, call, get(5, 0, 0), get(6, 0, 1), held(7, 1), get(8, 7, 0))[-4:],
                             [[0, 5], [0, 6], [1], [0, 5]])

    def test_the_last_word_stays(self):
        for call in (last_word(0, MOST), last_word(0, -1000000001), last_word(16, 5), last_word(3, 5)):
            self.assertEqual(last(cell(0), num(3, 9), last_word(0, 4), call, clear(0), young(), words()), [1, 4])
            self.assertEqual(last(cell(0), num(3, 9), call, clear(0), young(), words()), [0])

    def test_the_words_told_stay(self):
        for call in (last_word(3, 1), found(3, 4, 5), slice_of(0), shape(16), same(0, 16)):
            self.assertEqual(last(cell(0), last_word(0, 4), clear(0), young(), call, words()), [1, 4])

    def test_the_round_of_the_old_stays(self):
        for n in NO_UNITS:
            self.assertEqual(run(cell(0), *GROWN, slice_of(n), counts(), slice_of(1), slice_of(n), counts())[-5:],
                             [[-1], [1, 0, 1, 0, 1, 0, 0, 0], [1, 1, 0], [-1], [1, 0, 1, 0, 0, 0, 1, 1]])

    def test_there_is_no_cell_and_no_round(self):
        refused = [cell(16), cell(5, 0), weak(5, 9), weak(16, 0), keyed(5, 9, 9), keyed(0, 0, 16)]
        self.assertEqual(run(*churn(20), *refused, cell(5))[-7:], [[-1], [-1], [-3], [-1], [-3], [-1], [1]])
        self.assertEqual(run(*churn(19), *refused, cell(5), cell(5))[-2:], [[0], [1]])

    def test_what_is_refused_for_want_of_room_leaves_the_variable(self):
        for call in (cell(3), weak(3, 0), keyed(3, 0, 0)):
            self.assertEqual(run(num(3, 9), *FULL, call, put(0, 0, 3), get(5, 0, 0))[-3:], [[-6], [0], [0, 9]])


if __name__ == "__main__":
    unittest.main()
