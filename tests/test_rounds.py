"""Rounds of the young, as the calls show them: how many there are, and who is kept.

Whether a cell is kept is asked through a weak cell, which holds it without keeping it.
"""

import unittest

from tests.helper import aged, cell, chain, churn, clear, get, held, keyed, last, move, num, put, run, weak

# One round at least: 20 more cells than there were.
A_ROUND = churn(20)


class HowManyRounds(unittest.TestCase):
    def test_none_up_to_the_20th_and_one_at_the_21st(self):
        self.assertEqual(run(*churn(21)), [[0]] * 20 + [[1]])

    def test_of_each_kind_that_is_made(self):
        for call in (cell(1), weak(1, 0), keyed(1, 0, 0)):
            self.assertEqual(run(*churn(19, 0), call, call)[-2:], [[0], [1]])
            self.assertEqual(run(*chain(19), call, move(2, 1), call)[-3:], [[0], [0], [2]])

    def test_two_if_20_are_kept(self):
        self.assertEqual(run(*chain(21)), [[0]] * 20 + [[2]])

    def test_one_if_19_are_kept(self):
        self.assertEqual(run(cell(1), clear(1), *chain(20))[2:], [[0]] * 19 + [[1]])

    def test_behind_two_rounds_all_are_old(self):
        self.assertEqual(run(*chain(61)), ([[0]] * 20 + [[2]] + [[0]] * 19 + [[2]] + [[0]] * 19 + [[2]]))

    def test_the_seasoned_become_old_in_the_next_round(self):
        # 19 are seasoned in the first round and become old in the second; behind it two are young.
        given = run(cell(1), clear(1), *chain(19), cell(2), cell(2), *churn(19, 2))
        self.assertEqual(given[21:], [[1], [1]] + [[0]] * 18 + [[1]])

    def test_those_let_go_are_not_young_any_more(self):
        # Behind a round one is kept and one is made: 18 more have place, then there is a round again.
        self.assertEqual(run(*churn(60))[20:], [[1]] + [[0]] * 18 + [[1]] + [[0]] * 18 + [[1], [0]])

    def test_what_the_variable_held_is_kept_until_the_new_one_is_made(self):
        self.assertEqual(run(*churn(19, 1), cell(0, 0, 3), cell(0, 1, 0), get(2, 0, 0), get(3, 2, 0))[-3:],
                         [[1], [1], [0, 3]])

    def test_no_other_call_has_a_round(self):
        calls = [num(1, 1), move(1, 2), clear(1), get(3, 0, 0), put(0, 0, 1), held(4, 5)]
        self.assertEqual(last(cell(0, 0, 1), weak(5, 0), *churn(18), *calls, cell(1)), [1])


class KeptByVariablesAndFields(unittest.TestCase):
    def test_each_variable_keeps(self):
        for v in range(14):
            w = (v + 1) % 14
            self.assertEqual(last(cell(v), weak(w, v), *aged(15), held(14, w)), [1])

    def test_what_no_variable_holds_is_let_go(self):
        self.assertEqual(last(cell(0), weak(1, 0), clear(0), held(2, 1)), [1])
        for drop in (clear(0), num(0, 3), move(0, 9), cell(0), weak(0, 1), keyed(0, 1, 1)):
            self.assertEqual(last(cell(0), weak(1, 0), drop, *A_ROUND, held(2, 1)), [0])

    def test_what_held_gives_is_kept_from_then_on(self):
        self.assertEqual(last(cell(0), weak(1, 0), clear(0), held(2, 1), *aged(15), held(3, 1)), [1])

    def test_held_gives_nothing_then(self):
        calls = [cell(0), weak(1, 0), clear(0), *A_ROUND, num(2, 5), held(2, 1), cell(3, 1, 2), get(4, 3, 0)]
        self.assertEqual(run(*calls)[-3:], [[0], [0], [2]])
        self.assertEqual(run(*calls[:-4], held(1, 1), held(2, 1))[-2:], [[0], [-3]])

    def test_each_field_keeps(self):
        for at in range(6):
            fields = [0, 1] * at + [1, 0] + [0, 1] * (5 - at)
            calls = [cell(0, 0, 4), weak(1, 0), cell(2, *fields), clear(0), *aged(15)]
            self.assertEqual(run(*calls, held(3, 1), get(4, 2, at), get(5, 4, 0))[-3:], [[1], [1], [0, 4]])

    def test_a_long_chain_is_kept_or_let_go_whole(self):
        made = [cell(0), weak(1, 0), *chain(17)]
        self.assertEqual(last(*made, *aged(15), held(2, 1)), [1])
        self.assertEqual(last(*made, clear(0), *A_ROUND, held(2, 1)), [0])

    def test_a_ring_does_not_keep_itself(self):
        ring = [cell(0, 0, 1), weak(2, 0), cell(1, 1, 0), put(0, 0, 1)]
        self.assertEqual(last(*ring, clear(0), clear(1), *A_ROUND, held(3, 2)), [0])
        self.assertEqual(last(*ring, clear(0), *aged(15), held(3, 2)), [1])

    def test_a_weak_cell_does_not_keep_and_holds_on_to_what_is_kept(self):
        calls = [cell(0), cell(1), weak(2, 0), weak(3, 1), clear(0), *aged(15)]
        self.assertEqual(run(*calls, held(4, 2), held(5, 3))[-2:], [[0], [1]])

    def test_a_weak_cell_may_be_let_go_itself(self):
        calls = [cell(0), weak(1, 0), weak(2, 1), clear(1), *A_ROUND, held(3, 2)]
        self.assertEqual(last(*calls), [0])

    def test_what_is_emptied_does_not_come_back(self):
        self.assertEqual(last(cell(0), weak(1, 0), clear(0), *A_ROUND, cell(0), *aged(15), held(2, 1)), [0])


class KeptByOldCells(unittest.TestCase):
    def setUp(self):
        self.old = [cell(0, 0, 1, 0, 2), *aged()]
        self.written = [*self.old, cell(1, 0, 7), weak(2, 1), put(0, 0, 1), clear(1)]

    def test_what_an_old_cell_comes_to_hold_is_kept(self):
        self.assertEqual(run(*self.written, *A_ROUND, held(3, 2), get(4, 0, 0), get(5, 4, 0))[-3:],
                         [[1], [1], [0, 7]])
        self.assertEqual(last(*self.written, *aged(), held(3, 2)), [1])

    def test_in_whichever_field(self):
        calls = [*self.old, cell(1), weak(2, 1), put(0, 1, 1), clear(1), *aged(), held(3, 2)]
        self.assertEqual(last(*calls), [1])

    def test_what_it_holds_no_more_is_let_go(self):
        self.assertEqual(last(*self.written, put(0, 0, 9), *A_ROUND, held(3, 2)), [0])

    def test_what_it_lets_drop_between_two_rounds_is_let_go(self):
        # Behind the first round the written one is seasoned and still young.
        self.assertEqual(last(*self.written, *A_ROUND, put(0, 0, 9), *A_ROUND, held(3, 2)), [0])

    def test_what_became_old_stays_whoever_drops_it(self):
        self.assertEqual(last(*self.written, *aged(), put(0, 0, 9), *aged(), held(3, 2)), [1])

    def test_an_old_cell_that_nobody_comes_to_keeps_all_the_same(self):
        self.assertEqual(last(*self.written, clear(0), *aged(), held(3, 2)), [1])

    def test_a_cell_that_becomes_old_with_a_young_one_in_it_is_remembered(self):
        # The holder is seasoned when the other is made, so it becomes old while that is still young.
        made = [cell(0, 0, 1), *churn(20), cell(1), weak(2, 1), put(0, 0, 1), clear(1)]
        self.assertEqual(last(*made, *aged(), held(3, 2)), [1])


class KeptByKeyedCells(unittest.TestCase):
    def setUp(self):
        # Variable 0: the key; 1: weak on the value; 2: weak on the key; 3: the keyed cell; the value is in none.
        self.made = [cell(0), cell(4, 0, 8), weak(1, 4), weak(2, 0), keyed(3, 0, 4), clear(4)]

    def test_a_key_that_is_kept_keeps_the_value(self):
        self.assertEqual(run(*self.made, *A_ROUND, held(5, 1), held(6, 2), get(7, 5, 0))[-3:], [[1], [1], [0, 8]])
        self.assertEqual(run(*self.made, *aged(), held(5, 1), held(6, 2))[-2:], [[1], [1]])

    def test_a_keyed_cell_does_not_keep_its_key(self):
        self.assertEqual(run(*self.made, clear(0), *A_ROUND, held(5, 1), held(6, 2))[-2:], [[0], [0]])

    def test_a_keyed_cell_that_is_let_go_keeps_nothing(self):
        self.assertEqual(run(*self.made, clear(3), *A_ROUND, held(5, 1), held(6, 2))[-2:], [[0], [1]])

    def test_a_value_may_be_kept_by_another(self):
        calls = [cell(0), cell(4), weak(1, 4), keyed(3, 0, 4), clear(0), *aged(), held(5, 1)]
        self.assertEqual(last(*calls), [1])

    def test_a_value_that_holds_its_key_does_not_keep_it(self):
        made = [cell(0), cell(4, 1, 0), weak(1, 4), weak(2, 0), keyed(3, 0, 4), clear(4)]
        self.assertEqual(run(*made, clear(0), *A_ROUND, held(5, 1), held(6, 2))[-2:], [[0], [0]])
        self.assertEqual(run(*made, *aged(), held(5, 1), held(6, 2))[-2:], [[1], [1]])

    def test_a_key_that_is_its_own_value_is_not_kept(self):
        made = [cell(0), weak(1, 0), keyed(3, 0, 0)]
        self.assertEqual(last(*made, clear(0), *A_ROUND, held(5, 1)), [0])
        self.assertEqual(last(*made, *aged(), held(5, 1)), [1])

    def test_what_the_value_holds_is_kept_too(self):
        made = [cell(0), cell(4), weak(1, 4), cell(4, 1, 4), cell(4, 1, 4), keyed(3, 0, 4), clear(4)]
        self.assertEqual(last(*made, *aged(), held(5, 1)), [1])
        self.assertEqual(last(*made, clear(0), *A_ROUND, held(5, 1)), [0])

    def test_one_value_is_the_key_of_the_next(self):
        # a -> b -> c, the keyed cells made in either order.
        cells = [cell(0), cell(1), cell(2), weak(5, 2)]
        for pairs in ([keyed(6, 0, 1), keyed(7, 1, 2)], [keyed(7, 1, 2), keyed(6, 0, 1)]):
            dropped = [clear(1), clear(2)]
            self.assertEqual(last(*cells, *pairs, *dropped, *aged(), held(8, 5)), [1])
            self.assertEqual(last(*cells, *pairs, *dropped, clear(0), *A_ROUND, held(8, 5)), [0])

    def test_a_value_that_is_a_keyed_cell_keeps_through_it(self):
        made = [cell(0), cell(1), weak(5, 1), keyed(2, 0, 1), keyed(3, 0, 2), clear(1), clear(2)]
        self.assertEqual(last(*made, *aged(), held(8, 5)), [1])
        self.assertEqual(last(*made, clear(3), *A_ROUND, held(8, 5)), [0])

    def test_a_keyed_cell_held_by_a_field_keeps_its_value(self):
        made = [*self.made, cell(3, 1, 3)]
        self.assertEqual(last(*made, *aged(), held(5, 1)), [1])
        self.assertEqual(last(*made, clear(0), *A_ROUND, held(5, 1)), [0])

    def test_an_old_key_keeps_a_young_value(self):
        made = [cell(0), *aged(), cell(4), weak(1, 4), keyed(3, 0, 4), clear(4)]
        self.assertEqual(last(*made, *aged(), held(5, 1)), [1])
        self.assertEqual(last(*made, clear(0), *aged(), held(5, 1)), [1])
        self.assertEqual(last(*made, clear(3), *A_ROUND, held(5, 1)), [0])

    def test_key_and_value_that_became_old_stay(self):
        made = [*self.made, *aged(), clear(3), clear(0)]
        self.assertEqual(run(*made, *aged(), held(5, 1), held(6, 2))[-2:], [[1], [1]])

    def test_a_key_let_go_takes_the_value_out_of_the_cell(self):
        # The value outlives its key in a variable. Were it still in the cell, it would be kept from there.
        made = [*self.made[:-1], clear(0), *A_ROUND, clear(4)]
        self.assertEqual(run(*made, *A_ROUND, held(5, 1), held(6, 2))[-2:], [[0], [0]])

    def test_a_key_that_is_a_weak_or_a_keyed_cell(self):
        for key in (weak(0, 9), keyed(0, 9, 9)):
            made = [cell(9), key, cell(4), weak(1, 4), keyed(3, 0, 4), clear(4)]
            self.assertEqual(last(*made, *aged(), held(5, 1)), [1])
            self.assertEqual(last(*made, clear(0), *A_ROUND, held(5, 1)), [0])

    def test_a_value_that_is_no_cell(self):
        for value in (num(4, 3), clear(4)):
            self.assertEqual(run(cell(0), value, keyed(3, 0, 4), *aged(), cell(1, 1, 3), get(2, 1, 0))[-2:],
                             [[0], [1]])


if __name__ == "__main__":
    unittest.main()
