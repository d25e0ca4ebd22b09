"""Points 1, 2 and 5: the answers of a day."""

import copy
import unittest

from layerdial.day import answers

HUNDRED_FIGURES = 10 ** 100 - 1
UNDO = ("undo",)


class Answers(unittest.TestCase):
    def check(self, layers, deeds_and_answers):
        """Each row has a deed and its answer; True and 1 are told apart, a tuple and a list too."""
        deeds = [deed for deed, told in deeds_and_answers]
        expected = [told for deed, told in deeds_and_answers]
        self.assertEqual(repr(answers(layers, deeds)), repr(expected))


class Set(Answers):
    def test_done(self):
        self.check(2, [(("set", 1, "a", 5), True), (("holds", "a"), (5, 1))])

    def test_over_a_value_that_is_there(self):
        self.check(2, [
            (("set", 0, "a", 5), True),
            (("set", 0, "a", 6), True),
            (("holds", "a"), (6, 0)),
        ])

    def test_leaves_other_names_and_layers_alone(self):
        self.check(2, [
            (("set", 0, "a", 1), True),
            (("set", 1, "b", 2), True),
            (("holds", "a"), (1, 0)),
            (("holds", "b"), (2, 1)),
            (("holds", "c"), None),
        ])

    def test_done_on_a_locked_layer_and_nearer_than_one(self):
        self.check(2, [
            (("lock", 0, "a"), True),
            (("set", 1, "a", 2), True),
            (("holds", "a"), None),
            (("set", 0, "a", 1), True),
            (("holds", "a"), (1, 0)),
        ])

    def test_nought_below_it_and_a_hundred_figures(self):
        for value in (0, -1, HUNDRED_FIGURES, -HUNDRED_FIGURES):
            self.check(1, [(("set", 0, "a", value), True), (("holds", "a"), (value, 0)), (("unset", 0, "a"), True)])


class Unset(Answers):
    def test_done(self):
        self.check(2, [
            (("set", 0, "a", 1), True),
            (("set", 1, "a", 2), True),
            (("unset", 1, "a"), True),
            (("holds", "a"), (1, 0)),
            (("unset", 0, "a"), True),
            (("holds", "a"), None),
        ])

    def test_refused_where_there_is_no_value(self):
        self.check(2, [
            (("unset", 0, "a"), False),
            (("set", 0, "a", 1), True),
            (("unset", 1, "a"), False),
            (("unset", 0, "b"), False),
            (("unset", 0, "a"), True),
            (("unset", 0, "a"), False),
        ])

    def test_a_lock_is_no_value(self):
        self.check(1, [(("lock", 0, "a"), True), (("unset", 0, "a"), False), (("unlock", 0, "a"), True)])

    def test_leaves_the_lock(self):
        self.check(2, [
            (("set", 0, "a", 1), True),
            (("lock", 0, "a"), True),
            (("set", 1, "a", 2), True),
            (("unset", 0, "a"), True),
            (("holds", "a"), None),
            (("lock", 0, "a"), False),
        ])


class Lock(Answers):
    def test_done(self):
        self.check(3, [
            (("set", 0, "a", 1), True),
            (("set", 2, "a", 3), True),
            (("lock", 1, "a"), True),
            (("holds", "a"), (1, 0)),
        ])

    def test_refused_where_there_is_one(self):
        self.check(2, [
            (("lock", 0, "a"), True),
            (("lock", 0, "a"), False),
            (("lock", 1, "a"), True),
            (("lock", 0, "b"), True),
        ])

    def test_a_value_is_no_lock(self):
        self.check(1, [(("set", 0, "a", 1), True), (("lock", 0, "a"), True), (("holds", "a"), (1, 0))])

    def test_locks_one_name_alone(self):
        self.check(2, [
            (("set", 1, "a", 1), True),
            (("set", 1, "b", 2), True),
            (("lock", 0, "a"), True),
            (("holds", "a"), None),
            (("holds", "b"), (2, 1)),
        ])


class Unlock(Answers):
    def test_done(self):
        self.check(2, [
            (("set", 1, "a", 1), True),
            (("lock", 0, "a"), True),
            (("holds", "a"), None),
            (("unlock", 0, "a"), True),
            (("holds", "a"), (1, 1)),
            (("lock", 0, "a"), True),
        ])

    def test_refused_where_there_is_none(self):
        self.check(2, [
            (("unlock", 0, "a"), False),
            (("lock", 0, "a"), True),
            (("unlock", 1, "a"), False),
            (("unlock", 0, "b"), False),
            (("unlock", 0, "a"), True),
            (("unlock", 0, "a"), False),
        ])

    def test_a_value_is_no_lock(self):
        self.check(1, [(("set", 0, "a", 1), True), (("unlock", 0, "a"), False), (("holds", "a"), (1, 0))])

    def test_the_next_furthest_lock_counts_then(self):
        self.check(3, [
            (("set", 1, "a", 1), True),
            (("set", 2, "a", 2), True),
            (("lock", 0, "a"), True),
            (("lock", 1, "a"), True),
            (("unlock", 0, "a"), True),
            (("holds", "a"), (1, 1)),
        ])


class Copy(Answers):
    def test_done_towards_the_nearer_and_the_further(self):
        self.check(3, [
            (("set", 1, "a", 1), True),
            (("copy", 1, 2), True),
            (("holds", "a"), (1, 2)),
            (("unset", 2, "a"), True),
            (("unset", 1, "a"), True),
            (("set", 2, "a", 3), True),
            (("copy", 2, 0), True),
            (("unset", 2, "a"), True),
            (("holds", "a"), (3, 0)),
        ])

    def test_writes_over_values(self):
        self.check(2, [
            (("set", 0, "a", 1), True),
            (("set", 1, "a", 2), True),
            (("copy", 0, 1), True),
            (("holds", "a"), (1, 1)),
        ])

    def test_takes_away_values_that_the_first_has_not(self):
        self.check(2, [
            (("set", 0, "a", 1), True),
            (("set", 1, "b", 2), True),
            (("copy", 0, 1), True),
            (("holds", "b"), None),
            (("unset", 1, "b"), False),
            (("unset", 1, "a"), True),
        ])

    def test_of_a_layer_without_values(self):
        self.check(2, [(("set", 1, "a", 1), True), (("copy", 0, 1), True), (("holds", "a"), None)])

    def test_leaves_the_locks_of_both(self):
        self.check(2, [
            (("lock", 0, "a"), True),
            (("lock", 1, "b"), True),
            (("copy", 0, 1), True),
            (("unlock", 1, "a"), False),
            (("lock", 0, "b"), True),
            (("unlock", 1, "b"), True),
            (("unlock", 0, "a"), True),
        ])

    def test_both_go_their_own_ways_afterwards(self):
        self.check(2, [
            (("set", 0, "a", 1), True),
            (("copy", 0, 1), True),
            (("set", 0, "a", 5), True),
            (("holds", "a"), (1, 1)),
            (("set", 1, "b", 7), True),
            (("unset", 0, "b"), False),
            (("unset", 1, "a"), True),
            (("holds", "a"), (5, 0)),
            (("set", 0, "c", 9), True),
            (("unset", 1, "c"), False),
        ])

    def test_to_the_same_layer_is_refused(self):
        self.check(2, [
            (("copy", 0, 0), False),
            (("set", 1, "a", 1), True),
            (("copy", 1, 1), False),
            (("holds", "a"), (1, 1)),
            (UNDO, True),
            (UNDO, False),
        ])


class LayersThatAreNotThere(Answers):
    def test_each_deed_with_one_layer(self):
        for layers in (1, 3, 100):
            # Where a number below nought counted from the end, each deed would find what it asks for.
            ahead = []
            for number in range(layers):
                ahead += [("set", number, "a", 1), ("lock", number, "b")]
            for number in (-1, -layers, -layers - 1, layers, layers + 1, 10 ** 30, -10 ** 30):
                for deed in (("set", number, "a", 2), ("unset", number, "a"),
                             ("lock", number, "a"), ("unlock", number, "b")):
                    with self.subTest(layers=layers, deed=deed):
                        told = answers(layers, ahead + [deed, ("holds", "a")])
                        self.assertEqual(told[-2:], [False, (1, layers - 1)])
                        self.assertIs(told[-2], False)

    def test_both_layers_of_a_copy(self):
        ahead = [("set", 0, "a", 1), ("set", 1, "a", 2), ("set", 2, "a", 3)]
        for number in (-1, -3, -4, 3, 4, 10 ** 30, -10 ** 30):
            for deed in (("copy", number, 0), ("copy", 0, number), ("copy", number, 1), ("copy", 1, number),
                         ("copy", number, number), ("copy", number, number + 1)):
                with self.subTest(deed=deed):
                    told = answers(3, ahead + [deed, ("unset", 2, "a"), ("holds", "a")])
                    self.assertEqual(told, [True, True, True, False, True, (2, 1)])

    def test_they_change_nothing_and_cannot_be_undone(self):
        self.check(2, [
            (("set", 1, "a", 1), True),
            (("set", 2, "a", 2), False),
            (("set", -1, "a", 2), False),
            (("lock", -2, "a"), False),
            (("copy", 0, -1), False),
            (("holds", "a"), (1, 1)),
            (UNDO, True),
            (("holds", "a"), None),
            (UNDO, False),
        ])

    def test_greatest_layer_is_there(self):
        self.check(100, [
            (("set", 99, "a", 1), True),
            (("lock", 99, "a"), True),
            (("copy", 99, 0), True),
            (("unset", 99, "a"), True),
            (("unlock", 99, "a"), True),
            (("copy", 0, 99), True),
            (("holds", "a"), (1, 99)),
        ])


class Undo(Answers):
    def test_nothing_to_undo(self):
        self.check(1, [(UNDO, False), (UNDO, False)])

    def test_of_a_set(self):
        self.check(1, [
            (("set", 0, "a", 1), True),
            (("set", 0, "a", 2), True),
            (UNDO, True),
            (("holds", "a"), (1, 0)),
            (UNDO, True),
            (("holds", "a"), None),
            (UNDO, False),
        ])

    def test_of_an_unset(self):
        self.check(1, [(("set", 0, "a", 0), True), (("unset", 0, "a"), True), (UNDO, True), (("holds", "a"), (0, 0))])

    def test_of_a_lock(self):
        self.check(2, [
            (("set", 1, "a", 1), True),
            (("lock", 0, "a"), True),
            (UNDO, True),
            (("holds", "a"), (1, 1)),
            (("unlock", 0, "a"), False),
        ])

    def test_of_an_unlock(self):
        self.check(2, [
            (("set", 1, "a", 1), True),
            (("lock", 0, "a"), True),
            (("unlock", 0, "a"), True),
            (UNDO, True),
            (("holds", "a"), None),
            (("lock", 0, "a"), False),
        ])

    def test_of_a_copy(self):
        self.check(2, [
            (("set", 0, "a", 1), True),
            (("set", 0, "b", 2), True),
            (("set", 1, "b", 3), True),
            (("set", 1, "c", 4), True),
            (("copy", 0, 1), True),
            (UNDO, True),
            (("holds", "a"), (1, 0)),
            (("holds", "b"), (3, 1)),
            (("holds", "c"), (4, 1)),
        ])

    def test_of_a_deed_behind_a_copy(self):
        self.check(2, [
            (("set", 0, "a", 1), True),
            (("copy", 0, 1), True),
            (("set", 1, "a", 2), True),
            (UNDO, True),
            (("holds", "a"), (1, 1)),
            (("unset", 1, "a"), True),
            (("holds", "a"), (1, 0)),
        ])

    def test_of_several_in_a_row(self):
        self.check(2, [
            (("set", 0, "a", 1), True),
            (("set", 1, "a", 2), True),
            (("lock", 0, "a"), True),
            (("copy", 1, 0), True),
            (("holds", "a"), (2, 0)),
            (UNDO, True),
            (("holds", "a"), (1, 0)),
            (UNDO, True),
            (("holds", "a"), (2, 1)),
            (UNDO, True),
            (("holds", "a"), (1, 0)),
            (UNDO, True),
            (("holds", "a"), None),
            (UNDO, False),
        ])

    def test_of_a_deed_that_changed_nothing(self):
        self.check(2, [
            (("set", 0, "a", 1), True),
            (("set", 0, "a", 1), True),
            (UNDO, True),
            (("holds", "a"), (1, 0)),
            (UNDO, True),
            (("holds", "a"), None),
            (("copy", 0, 1), True),
            (UNDO, True),
            (UNDO, False),
        ])

    def test_refused_deeds_and_holds_between_do_not_count(self):
        self.check(2, [
            (("set", 0, "a", 1), True),
            (("holds", "a"), (1, 0)),
            (("unset", 1, "a"), False),
            (("unlock", 0, "a"), False),
            (("copy", 1, 1), False),
            (("set", 7, "a", 1), False),
            (("holds", "b"), None),
            (UNDO, True),
            (("holds", "a"), None),
            (UNDO, False),
        ])

    def test_a_refused_lock_does_not_count(self):
        self.check(1, [
            (("lock", 0, "a"), True),
            (("lock", 0, "a"), False),
            (UNDO, True),
            (("lock", 0, "a"), True),
        ])

    def test_a_refused_undo_does_not_count(self):
        self.check(1, [(UNDO, False), (("set", 0, "a", 1), True), (UNDO, True), (UNDO, False)])

    def test_an_undo_is_not_undone(self):
        self.check(1, [
            (("set", 0, "a", 1), True),
            (("set", 0, "a", 2), True),
            (UNDO, True),
            (UNDO, True),
            (("holds", "a"), None),
            (UNDO, False),
        ])

    def test_a_deed_after_an_undo(self):
        self.check(1, [
            (("set", 0, "a", 1), True),
            (("set", 0, "a", 2), True),
            (UNDO, True),
            (("set", 0, "a", 3), True),
            (("holds", "a"), (3, 0)),
            (UNDO, True),
            (("holds", "a"), (1, 0)),
            (UNDO, True),
            (("holds", "a"), None),
            (UNDO, False),
        ])


class Names(Answers):
    def test_the_empty_name(self):
        self.check(2, [
            (("set", 0, "", 1), True),
            (("holds", ""), (1, 0)),
            (("holds", " "), None),
            (("lock", 0, ""), True),
            (("lock", 0, ""), False),
            (("unlock", 0, ""), True),
            (("copy", 0, 1), True),
            (("holds", ""), (1, 1)),
            (("unset", 1, ""), True),
            (("holds", ""), (1, 0)),
        ])

    def test_names_that_differ_in_case_alone(self):
        self.check(2, [
            (("set", 1, "a", 1), True),
            (("set", 1, "A", 2), True),
            (("lock", 0, "A"), True),
            (("holds", "a"), (1, 1)),
            (("holds", "A"), None),
            (("unlock", 0, "a"), False),
            (("unset", 1, "a"), True),
            (("unset", 1, "A"), True),
        ])

    def test_names_like_deeds_and_numbers(self):
        self.check(1, [(("set", 0, "undo", 1), True), (("set", 0, "0", 2), True), (("holds", "undo"), (1, 0))])


class Days(Answers):
    def test_without_deeds(self):
        self.assertEqual(answers(1, []), [])
        self.assertEqual(answers(100, []), [])

    def test_at_first_no_layer_has_any(self):
        self.check(3, [
            (("holds", "a"), None),
            (("unset", 0, "a"), False),
            (("unlock", 2, "a"), False),
        ])

    def test_one_layer(self):
        self.check(1, [
            (("set", 0, "a", 1), True),
            (("lock", 0, "a"), True),
            (("holds", "a"), (1, 0)),
            (("copy", 0, 0), False),
            (("copy", 0, 1), False),
        ])

    def test_a_hundred_layers(self):
        deeds = [("set", number, "a", number) for number in range(100)]
        deeds += [("holds", "a"), ("lock", 50, "a"), ("holds", "a"), ("lock", 7, "a"), ("holds", "a")]
        self.assertEqual(answers(100, deeds)[100:], [(99, 99), True, (50, 50), True, (7, 7)])

    def test_four_hundred_and_fifty_deeds(self):
        deeds = [("set", 0, str(number), number) for number in range(150)]
        deeds += [("copy", number, number + 1) for number in range(75)]
        deeds += [UNDO] * 225
        self.assertEqual(answers(100, deeds), [True] * 450)
        self.assertEqual(answers(100, deeds + [UNDO, ("holds", "7")])[450:], [False, None])

    def test_each_day_begins_anew(self):
        day = [("holds", "a"), ("lock", 0, "a"), ("set", 0, "a", 1)]
        self.assertEqual(answers(1, day), [None, True, True])
        self.assertEqual(answers(1, day), [None, True, True])

    def test_deeds_stay_as_they_were(self):
        deeds = [
            ("set", 0, "a", 1), ("lock", 0, "a"), ("copy", 0, 1), UNDO, ("unset", 0, "a"),
            ("unlock", 0, "a"), ("holds", "a"), ("set", 9, "a", 1),
        ]
        before = copy.deepcopy(deeds)
        answers(2, deeds)
        self.assertEqual(deeds, before)


if __name__ == "__main__":
    unittest.main()
