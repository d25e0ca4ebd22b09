"""Points 2 to 4: what holds for one name."""

import copy
import unittest

from layerdial.deciding import decided

HUNDRED_FIGURES = 10 ** 100 - 1


class OneLayer(unittest.TestCase):
    def test_value_without_lock(self):
        self.assertEqual(decided([(7, False)]), (7, 0))

    def test_value_with_lock(self):
        self.assertEqual(decided([(7, True)]), (7, 0))

    def test_neither(self):
        self.assertIsNone(decided([(None, False)]))

    def test_lock_alone(self):
        self.assertIsNone(decided([(None, True)]))


class WithoutLocks(unittest.TestCase):
    def test_no_value_at_all(self):
        self.assertIsNone(decided([(None, False)] * 5))

    def test_nearest_value_decides(self):
        self.assertEqual(decided([(1, False), (2, False), (3, False)]), (3, 2))

    def test_layers_without_a_value_are_passed_over(self):
        self.assertEqual(decided([(1, False), (2, False), (None, False), (None, False)]), (2, 1))

    def test_furthest_alone_has_a_value(self):
        self.assertEqual(decided([(1, False), (None, False), (None, False)]), (1, 0))

    def test_nearest_counts_and_not_the_greatest(self):
        self.assertEqual(decided([(9, False), (-9, False)]), (-9, 1))

    def test_same_value_is_told_of_the_nearest(self):
        self.assertEqual(decided([(4, False), (4, False)]), (4, 1))


class WithLocks(unittest.TestCase):
    def test_lock_further_than_the_only_value(self):
        self.assertIsNone(decided([(None, True), (5, False)]))

    def test_lock_further_than_a_value_but_not_than_another(self):
        self.assertEqual(decided([(1, False), (None, True), (3, False)]), (1, 0))

    def test_lock_on_the_layer_of_a_value(self):
        self.assertEqual(decided([(1, False), (2, True), (3, False)]), (2, 1))

    def test_lock_nearer_than_the_value(self):
        self.assertEqual(decided([(1, False), (2, False), (None, True)]), (2, 1))

    def test_lock_on_the_nearest_shuts_nothing_out(self):
        self.assertEqual(decided([(1, False), (2, False), (3, True)]), (3, 2))

    def test_furthest_of_several_locks_counts(self):
        self.assertEqual(decided([(1, False), (2, True), (3, True), (4, True)]), (2, 1))

    def test_furthest_lock_counts_where_its_layer_has_no_value(self):
        self.assertEqual(decided([(1, False), (None, True), (3, True), (4, False)]), (1, 0))

    def test_furthest_lock_on_the_furthest_layer(self):
        self.assertIsNone(decided([(None, True), (2, True), (3, True)]))

    def test_locked_layer_without_a_value_lets_the_nearest_of_the_further_decide(self):
        self.assertEqual(decided([(1, False), (2, False), (None, True), (4, False)]), (2, 1))

    def test_locked_layer_without_a_value_and_none_further(self):
        self.assertIsNone(decided([(None, False), (None, True), (3, False)]))


class Values(unittest.TestCase):
    def test_nought_is_a_value(self):
        self.assertEqual(decided([(5, False), (0, False)]), (0, 1))
        self.assertEqual(decided([(0, False), (None, False)]), (0, 0))
        self.assertEqual(decided([(5, False), (0, True), (6, False)]), (0, 1))

    def test_below_nought(self):
        self.assertEqual(decided([(5, False), (-1, False)]), (-1, 1))

    def test_hundred_figures_of_either_sign(self):
        self.assertEqual(decided([(1, False), (HUNDRED_FIGURES, False)]), (HUNDRED_FIGURES, 1))
        self.assertEqual(decided([(-HUNDRED_FIGURES, True), (1, False)]), (-HUNDRED_FIGURES, 0))


class Rows(unittest.TestCase):
    def test_more_than_a_hundred_layers(self):
        row = [(number, False) for number in range(250)]
        self.assertEqual(decided(row), (249, 249))
        row[200] = (None, True)
        self.assertEqual(decided(row), (199, 199))
        self.assertEqual(decided([(6, False)] + [(None, False)] * 1000), (6, 0))

    def test_answer_is_a_tuple(self):
        self.assertIs(type(decided([(1, False)])), tuple)

    def test_row_stays_as_it_was(self):
        row = [(1, False), (None, True), (3, False)]
        before = copy.deepcopy(row)
        first = decided(row)
        self.assertEqual(row, before)
        self.assertEqual(decided(row), first)


if __name__ == "__main__":
    unittest.main()
