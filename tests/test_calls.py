"""What the calls answer and do, as long as nothing is let go."""

import unittest

from tests.helper import cell, clear, get, held, keyed, last, move, num, put, run, weak


class CellAndGet(unittest.TestCase):
    def test_fields_of_each_sort(self):
        made = [cell(1), num(2, 8), cell(0, 0, -4, 1, 1, 1, 2, 1, 3)]
        self.assertEqual(last(*made, get(5, 0, 0)), [0, -4])
        self.assertEqual(last(*made, get(5, 0, 1)), [1])
        self.assertEqual(last(*made, get(5, 0, 2)), [0, 8])
        self.assertEqual(last(*made, get(5, 0, 3)), [2])

    def test_none_and_six_fields(self):
        six = cell(0, *[0, 1, 0, 2, 0, 3, 0, 4, 0, 5, 0, 6])
        self.assertEqual(run(cell(0), six, get(1, 0, 5)), [[0], [0], [0, 6]])

    def test_fields_hold_what_the_variables_held(self):
        calls = [num(0, 3), cell(0, 1, 0), cell(0, 1, 0), get(0, 0, 0), get(0, 0, 0)]
        self.assertEqual(run(*calls)[3:], [[1], [0, 3]])

    def test_a_later_change_of_the_variable_is_not_the_fields(self):
        self.assertEqual(last(num(1, 3), cell(0, 1, 1), num(1, 4), get(2, 0, 0)), [0, 3])

    def test_each_cell_has_fields_of_its_own(self):
        calls = [cell(0, 0, 1), cell(1, 0, 1), num(2, 9), put(0, 0, 2), get(3, 1, 0)]
        self.assertEqual(last(*calls), [0, 1])

    def test_get_puts_into_the_variable_what_it_tells(self):
        made = [cell(1, 0, 6), cell(0, 0, 5, 1, 1, 1, 9), num(3, 77)]
        self.assertEqual(last(*made, get(3, 0, 0), cell(4, 1, 3), get(5, 4, 0)), [0, 5])
        self.assertEqual(last(*made, get(3, 0, 1), get(5, 3, 0)), [0, 6])
        self.assertEqual(last(*made, get(3, 0, 2), cell(4, 1, 3), get(5, 4, 0)), [2])

    def test_get_into_the_variable_it_reads(self):
        self.assertEqual(run(cell(0, 0, 5), get(0, 0, 0), get(0, 0, 0)), [[0], [0, 5], [-3]])

    def test_numbers_that_may_be_held_at_the_edges(self):
        for z in (-1000000000, -1, 0, 1000000000):
            self.assertEqual(last(cell(0, 0, z), get(1, 0, 0)), [0, z])
            self.assertEqual(run(num(1, z), cell(0, 1, 1), get(1, 0, 0)), [[0], [0], [0, z]])


class NumMoveClear(unittest.TestCase):
    def test_num_holds(self):
        self.assertEqual(run(cell(0), num(0, 12), cell(1, 1, 0), get(2, 1, 0)), [[0], [0], [0], [0, 12]])

    def test_move_holds_what_the_other_does(self):
        self.assertEqual(run(num(0, 2), move(1, 0), cell(2, 1, 1, 1, 0), get(3, 2, 0), get(3, 2, 1))[1:],
                         [[0], [0], [0, 2], [0, 2]])
        self.assertEqual(last(num(0, 2), move(0, 1), cell(2, 1, 0), get(3, 2, 0)), [2])
        self.assertEqual(last(num(0, 2), move(0, 0), cell(2, 1, 0), get(3, 2, 0)), [0, 2])

    def test_move_holds_the_very_cell(self):
        calls = [cell(0, 0, 1), move(1, 0), num(2, 5), put(1, 0, 2), get(3, 0, 0)]
        self.assertEqual(last(*calls), [0, 5])

    def test_clear_holds_nothing(self):
        self.assertEqual(run(num(0, 2), clear(0), cell(1, 1, 0), get(2, 1, 0)), [[0], [0], [0], [2]])
        self.assertEqual(run(cell(0), clear(0), get(2, 0, 0)), [[0], [0], [-3]])

    def test_variables_hold_nothing_at_the_beginning(self):
        for v in range(16):
            self.assertEqual(last(cell(0, 1, v), get(1, 0, 0)), [2])

    def test_each_variable_is_one_of_its_own(self):
        calls = [num(v, 100 + v) for v in range(16)]
        for v in range(16):
            self.assertEqual(last(*calls, cell((v + 1) % 16, 1, v), get(v, (v + 1) % 16, 0)), [0, 100 + v])


class Set(unittest.TestCase):
    def test_a_field_is_written(self):
        made = [cell(1, 0, 6), cell(0, 0, 5, 0, 5, 0, 5)]
        self.assertEqual(run(*made, num(2, 9), put(0, 1, 2), get(3, 0, 0), get(3, 0, 1), get(3, 0, 2))[3:],
                         [[0], [0, 5], [0, 9], [0, 5]])
        self.assertEqual(run(*made, put(0, 2, 1), get(3, 0, 2), get(3, 3, 0))[2:], [[0], [1], [0, 6]])
        self.assertEqual(run(*made, put(0, 0, 4), get(3, 0, 0))[2:], [[0], [2]])

    def test_a_cell_may_hold_itself(self):
        calls = [cell(0, 0, 5, 0, 6), put(0, 0, 0), get(1, 0, 0), get(1, 1, 0), get(2, 1, 1)]
        self.assertEqual(run(*calls)[2:], [[1], [1], [0, 6]])


class WeakAndHeld(unittest.TestCase):
    def test_a_target_is_had(self):
        calls = [cell(0, 0, 5), weak(1, 0), held(2, 1), get(3, 2, 0)]
        self.assertEqual(run(*calls), [[0], [0], [1], [0, 5]])

    def test_held_into_the_variable_it_reads(self):
        self.assertEqual(run(cell(0, 0, 5), weak(1, 0), held(1, 1), get(3, 1, 0), held(1, 1)),
                         [[0], [0], [1], [0, 5], [-3]])

    def test_weak_into_the_variable_it_reads(self):
        self.assertEqual(run(cell(0, 0, 5), weak(0, 0), held(1, 0), get(2, 1, 0)), [[0], [0], [1], [0, 5]])

    def test_a_target_of_each_kind(self):
        calls = [cell(0), weak(1, 0), keyed(2, 0, 0), weak(3, 1), weak(4, 2), held(5, 3), held(6, 5), held(7, 4)]
        self.assertEqual(run(*calls)[5:], [[1], [1], [1]])


class Keyed(unittest.TestCase):
    def test_keys_and_values_of_each_sort(self):
        made = [cell(0), num(1, 3), weak(2, 0), keyed(3, 0, 0)]
        for k in (0, 2, 3):
            for x in range(5):
                self.assertEqual(last(*made, keyed(4, k, x)), [0])

    def test_it_is_in_the_variable_then(self):
        made = [cell(0, 0, 1), num(1, 3), keyed(1, 0, 0)]
        self.assertEqual(last(*made, cell(2, 1, 1), get(3, 2, 0)), [1])
        self.assertEqual(last(*made, get(3, 1, 0)), [-3])
        self.assertEqual(last(*made, get(3, 0, 0)), [0, 1])


if __name__ == "__main__":
    unittest.main()
