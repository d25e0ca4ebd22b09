"""The interface of layerdial/day.py: held and layers_behind."""

import copy
import unittest

from layerdial.day import held, layers_behind

UNDO = ("undo",)
BUSY_DAY = [
    ("set", 0, "b", 1), ("set", 0, "a", 2), ("lock", 1, "b"), ("lock", 1, "a"), ("copy", 0, 1),
    ("set", 1, "c", 3), UNDO, ("unset", 0, "a"), ("unlock", 1, "b"), ("holds", "a"), ("set", 5, "a", 1),
]


class Held(unittest.TestCase):
    def test_without_deeds(self):
        self.assertEqual(held(1, []), [])
        self.assertEqual(held(100, []), [])

    def test_order_of_python_texts(self):
        names = ["b", "a", "", "B", "aa", "10", "9", "\u00e9", "z", " ", "\U0001f600", "\uffff"]
        deeds = [("set", 0, name, number) for number, name in enumerate(names)]
        told = held(1, deeds)
        self.assertEqual([name for name, value, layer in told],
                         ["", " ", "10", "9", "B", "a", "aa", "b", "z", "\u00e9", "\uffff", "\U0001f600"])
        self.assertEqual(told, sorted((name, number, 0) for number, name in enumerate(names)))

    def test_values_and_layers(self):
        deeds = [("set", 2, "a", -3), ("set", 0, "a", 9), ("set", 1, "b", 0), ("set", 0, "c", 10 ** 99)]
        self.assertEqual(held(3, deeds), [("a", -3, 2), ("b", 0, 1), ("c", 10 ** 99, 0)])

    def test_rows_are_tuples_in_a_list(self):
        told = held(1, [("set", 0, "a", 1)])
        self.assertIs(type(told), list)
        self.assertIs(type(told[0]), tuple)

    def test_names_for_which_nothing_holds_are_left_out(self):
        deeds = [
            ("lock", 0, "locked alone"),
            ("set", 1, "shut out", 1), ("lock", 0, "shut out"),
            ("set", 1, "unset", 1), ("unset", 1, "unset"),
            ("holds", "only asked"),
            ("set", 1, "there", 0),
        ]
        self.assertEqual(held(2, deeds), [("there", 0, 1)])

    def test_locks(self):
        deeds = [
            ("set", 0, "a", 1), ("set", 1, "a", 2), ("set", 2, "a", 3), ("lock", 1, "a"),
            ("set", 0, "b", 4), ("set", 2, "b", 5), ("lock", 1, "b"), ("lock", 2, "b"),
        ]
        self.assertEqual(held(3, deeds), [("a", 2, 1), ("b", 4, 0)])

    def test_undo(self):
        deeds = [("set", 0, "a", 1), ("set", 1, "a", 2), ("set", 1, "b", 3), UNDO, UNDO]
        self.assertEqual(held(2, deeds), [("a", 1, 0)])
        self.assertEqual(held(2, deeds + [UNDO, UNDO]), [])

    def test_copy(self):
        deeds = [("set", 0, "a", 1), ("set", 1, "b", 2), ("copy", 0, 1), ("set", 0, "a", 5)]
        self.assertEqual(held(2, deeds), [("a", 1, 1)])

    def test_refused_deeds(self):
        self.assertEqual(held(2, [("set", 2, "a", 1), ("set", -1, "a", 1), ("copy", 0, 2), UNDO]), [])

    def test_deeds_stay_as_they_were(self):
        deeds = copy.deepcopy(BUSY_DAY)
        held(2, deeds)
        self.assertEqual(deeds, BUSY_DAY)


class LayersBehind(unittest.TestCase):
    def test_without_deeds(self):
        self.assertEqual(layers_behind(1, []), [([], [])])
        self.assertEqual(layers_behind(100, []), [([], [])] * 100)

    def test_one_pair_a_layer_from_the_furthest_on(self):
        deeds = [("set", 2, "near", 3), ("set", 0, "far", 1), ("lock", 1, "mid")]
        self.assertEqual(layers_behind(3, deeds), [([("far", 1)], []), ([], ["mid"]), ([("near", 3)], [])])

    def test_order_of_the_names(self):
        deeds = [("set", 0, name, value) for name, value in (("b", 1), ("", 2), ("a", 9), ("B", 0))]
        deeds += [("lock", 0, name) for name in ("d", "", "c", "D")]
        self.assertEqual(layers_behind(1, deeds), [
            ([("", 2), ("B", 0), ("a", 9), ("b", 1)], ["", "D", "c", "d"]),
        ])

    def test_values_that_do_not_hold_are_there_too(self):
        deeds = [("lock", 0, "a"), ("set", 1, "a", 1), ("set", 0, "b", 2), ("set", 1, "b", 3)]
        self.assertEqual(layers_behind(2, deeds), [([("b", 2)], ["a"]), ([("a", 1), ("b", 3)], [])])

    def test_unset_and_unlock(self):
        deeds = [("set", 0, "a", 1), ("lock", 0, "a"), ("unset", 0, "a")]
        self.assertEqual(layers_behind(1, deeds), [([], ["a"])])
        self.assertEqual(layers_behind(1, deeds + [("unlock", 0, "a")]), [([], [])])

    def test_copy(self):
        deeds = [
            ("set", 0, "b", 1), ("set", 0, "a", 2), ("lock", 0, "a"),
            ("set", 1, "a", 5), ("set", 1, "c", 6), ("lock", 1, "c"),
            ("copy", 0, 1),
        ]
        self.assertEqual(layers_behind(2, deeds), [
            ([("a", 2), ("b", 1)], ["a"]),
            ([("a", 2), ("b", 1)], ["c"]),
        ])
        self.assertEqual(layers_behind(2, deeds + [("unset", 0, "a"), ("set", 1, "d", 0)]), [
            ([("b", 1)], ["a"]),
            ([("a", 2), ("b", 1), ("d", 0)], ["c"]),
        ])

    def test_undo(self):
        deeds = [
            ("set", 0, "a", 1), ("set", 1, "b", 2), ("lock", 1, "a"), ("copy", 0, 1),
            ("unlock", 1, "a"), ("unset", 0, "a"),
        ]
        self.assertEqual(layers_behind(2, deeds + [UNDO] * 2), [([("a", 1)], []), ([("a", 1)], ["a"])])
        self.assertEqual(layers_behind(2, deeds + [UNDO] * 3), [([("a", 1)], []), ([("b", 2)], ["a"])])
        self.assertEqual(layers_behind(2, deeds + [UNDO] * 7), [([], []), ([], [])])

    def test_refused_deeds(self):
        deeds = [("set", -1, "a", 1), ("lock", 2, "a"), ("copy", 1, 1), ("unset", 0, "a"), UNDO]
        self.assertEqual(layers_behind(2, deeds), [([], []), ([], [])])

    def test_kinds(self):
        told = layers_behind(1, [("set", 0, "a", 1), ("lock", 0, "b")])
        self.assertEqual(repr(told), "[([('a', 1)], ['b'])]")

    def test_what_is_given_back_is_the_callers_own(self):
        deeds = [("set", 0, "a", 1), ("copy", 0, 1)]
        told = layers_behind(2, deeds)
        told[0][0].append("more")
        self.assertEqual(told[1], ([("a", 1)], []))
        self.assertEqual(layers_behind(2, deeds), [([("a", 1)], [])] * 2)

    def test_deeds_stay_as_they_were(self):
        deeds = copy.deepcopy(BUSY_DAY)
        layers_behind(2, deeds)
        self.assertEqual(deeds, BUSY_DAY)


if __name__ == "__main__":
    unittest.main()
