"""How calls stand in the list, how answers do, and that nothing is changed or kept."""

import builtins
import subprocess
import sys
import unittest
from unittest import mock

from letgostore import store
from tests.helper import GROWN
from tests.helper import aged, cell, clear, counts, found, get, held, joined, keyed, last_word, move, num, put, run
from tests.helper import same, shape, slice_of, weak, words, young

ONE_OF_EACH = [
    cell(0, 0, 7, 1, 3), num(1, -5), move(2, 0), clear(3), get(4, 0, 0), put(0, 1, 0),
    weak(5, 0), held(6, 5), keyed(7, 0, 1), cell(16), get(0, 1, 0), get(0, 0, 2),
    found(8, 7, 0), last_word(5, -3), clear(5), young(), words(), slice_of(1), counts(), shape(0), same(0, 6),
    found(8, 0, 0), slice_of(0),
]


class Form(unittest.TestCase):
    def test_each_answer_stands_behind_its_count(self):
        expected = [1, 0, 1, 0, 1, 0, 1, 0, 2, 0, 7, 1, 0, 1, 0, 1, 1, 1, 0, 1, -1, 1, -3, 1, -4,
                    1, 1, 1, 0, 1, 0, 3, 1, 0, 2, 2, 1, -3, 3, 0, 0, 0, 8, 2, 2, 0, 0, 0, 0, 0, 0,
                    9, 1, 1, 0, 0, 2, 0, 7, 1, 0, 1, 1, 1, -3, 1, -1]
        self.assertEqual(store.answers(joined(ONE_OF_EACH)), expected)

    def test_numbers_of_the_calls(self):
        self.assertEqual(store.answers([1, 0, 0]), [1, 0])
        self.assertEqual(store.answers([1, 0, 4, 0, 9, 1, 0, 5, 1, 0, 1]), [1, 0, 1, 2])
        self.assertEqual(store.answers([2, 0, 3, 1, 1, 2, 1, 0, 3, 2, 0, 6, 1, 0, 2, 5, 4, 1, 0]),
                         [1, 0, 1, 0, 1, 0, 1, 0, 2, 0, 3])
        self.assertEqual(store.answers([1, 0, 0, 7, 1, 0, 8, 2, 1, 9, 3, 0, 2, 4, 2]),
                         [1, 0, 1, 0, 1, 1, 1, 0, 1, 0])

    def test_numbers_of_the_calls_that_ask(self):
        self.assertEqual(store.answers([1, 0, 0, 9, 1, 0, 0, 10, 2, 1, 0, 17, 0, 2]), [1, 0, 1, 0, 1, 1, 1, 1])
        self.assertEqual(store.answers([1, 0, 0, 11, 0, 5, 4, 0, 13, 12, 12]), [1, 0, 1, 0, 1, 0, 3, 1, 0, 0, 2, 1, 5, 1, 0])
        self.assertEqual(store.answers([1, 3, 0, 13, 13, 14, 1, 15, 16, 3]),
                         [1, 0, 3, 0, 0, 1, 3, 0, 1, 0, 3, 1, 1, 0, 8, 1, 0, 1, 0, 0, 0, 1, 1, 5, 1, 1, 0, 0, 0])

    def test_calls_without_numbers_alone(self):
        self.assertEqual(store.answers([12]), [1, 0])
        self.assertEqual(store.answers([13]), [3, 0, 0, 0])
        self.assertEqual(store.answers([15]), [8, 0, 0, 0, 0, 0, 0, 0, 0])
        self.assertEqual(store.answers([14, 1]), [3, 0, 0, 0])
        self.assertEqual(store.answers([16, 0]), [2, 0, 2])

    def test_numbers_below_0_behind_the_first(self):
        self.assertEqual(store.answers([2, 0, -9, 16, 0]), [1, 0, 3, 0, 0, -9])

    def test_a_refused_row_is_passed_over_whole(self):
        self.assertEqual(run(cell(0, *range(40)), cell(0, 2, 2, 2), cell(99, 0, 1), num(0, 1)),
                         [[-1], [-1], [-1], [0]])

    def test_answers_are_whole_numbers_in_a_list(self):
        given = store.answers(joined(ONE_OF_EACH))
        self.assertIs(type(given), list)
        self.assertEqual({type(number) for number in given}, {int})


class NothingChangesOrStays(unittest.TestCase):
    def test_the_list_stays_as_it_was(self):
        calls = joined(ONE_OF_EACH + aged())
        before = list(calls)
        store.answers(calls)
        self.assertEqual(calls, before)

    def test_the_list_is_not_changed_for_a_while_either(self):
        class Watched(list):
            def refuse(self, *rest):
                raise RuntimeError("changed")
            __setitem__ = __delitem__ = __iadd__ = __imul__ = refuse
            append = extend = insert = pop = remove = clear = sort = reverse = refuse

        calls = joined(ONE_OF_EACH)
        self.assertEqual(store.answers(Watched(calls)), store.answers(calls))

    def test_twice_the_same(self):
        calls = joined(ONE_OF_EACH + aged() + [held(6, 5), get(1, 0, 1)])
        self.assertEqual(store.answers(calls), store.answers(calls))

    def test_each_time_as_if_for_the_first_time(self):
        store.answers(joined([cell(0, 0, 7)] + [cell(1, 1, 1)] * 99))
        self.assertEqual(store.answers(get(0, 0, 0)), [1, -3])
        self.assertEqual(run(*[cell(1)] * 20), [[0]] * 20)
        store.answers(joined([cell(0), last_word(0, 5), *GROWN, clear(0), slice_of(1)]))
        self.assertEqual(run(words(), counts(), shape(0)), [[0], [0] * 8, [0, 2]])

    def test_what_is_given_back_is_not_kept(self):
        calls = joined(ONE_OF_EACH)
        first = store.answers(calls)
        expected = list(first)
        first.clear()
        self.assertEqual(store.answers(calls), expected)

    def test_nothing_is_printed_read_or_imported(self):
        def refuse(*rest, **more):
            raise RuntimeError("not asked for")

        with mock.patch.multiple(builtins, print=refuse, open=refuse, input=refuse, __import__=refuse):
            given = store.answers(joined(ONE_OF_EACH + aged()))
        self.assertEqual(given[:2], [1, 0])

    def test_importing_brings_only_the_package(self):
        program = ("import sys; before = set(sys.modules); import letgostore.store; "
                   "print(sorted(n for n in set(sys.modules) - before if n.split('.')[0] != 'letgostore'))")
        done = subprocess.run([sys.executable, "-c", program], capture_output=True, text=True, check=True)
        self.assertEqual((done.stdout, done.stderr), ("[]\n", ""))

    def test_long_lists_are_gone_through_by_loops(self):
        self.assertEqual(run(*[num(0, 1)] * 3000), [[0]] * 3000)
        self.assertEqual(run(*[cell(0), young(), slice_of(1)] * 700, shape(0))[-1], [1, 1, 0, 0, 0])


if __name__ == "__main__":
    unittest.main()
