"""Whole days against a second reading of the document, which does a day anew for each undo."""

import itertools
import random
import unittest

from layerdial.day import answers, held, layers_behind


def refused(layers, values, locks, deed):
    kind = deed[0]
    numbers = deed[1:3] if kind == "copy" else deed[1:2]
    if any(number not in range(layers) for number in numbers):
        return True
    if kind == "copy":
        return deed[1] == deed[2]
    if kind == "unset":
        return deed[1:3] not in values
    if kind == "lock":
        return deed[1:3] in locks
    if kind == "unlock":
        return deed[1:3] not in locks
    return False


def replayed(done):
    """The values by (layer, name) and the set of locks behind deeds none of which is refused or undone."""
    values = {}
    locks = set()
    for deed in done:
        kind = deed[0]
        if kind == "set":
            values[deed[1:3]] = deed[3]
        elif kind == "unset":
            del values[deed[1:3]]
        elif kind == "lock":
            locks.add(deed[1:3])
        elif kind == "unlock":
            locks.remove(deed[1:3])
        else:
            one, other = deed[1:]
            kept = {place: value for place, value in values.items() if place[0] != other}
            copied = {(other, name): value for (number, name), value in values.items() if number == one}
            values = {**kept, **copied}
    return values, locks


def holding(layers, values, locks, name):
    locked = [number for number in range(layers) if (number, name) in locks]
    last = min(locked) if locked else layers - 1
    deciding = [number for number in range(last + 1) if (number, name) in values]
    return (values[max(deciding), name], max(deciding)) if deciding else None


def read_again(layers, deeds):
    """What answers, held and layers_behind are to give, in a tuple."""
    done = []
    told = []
    for deed in deeds:
        values, locks = replayed(done)
        if deed[0] == "holds":
            told.append(holding(layers, values, locks, deed[1]))
        elif deed[0] == "undo":
            told.append(len(done) > 0)
            done = done[:-1]
        elif refused(layers, values, locks, deed):
            told.append(False)
        else:
            told.append(True)
            done = done + [deed]
    values, locks = replayed(done)
    names = sorted({name for number, name in values})
    all_held = [(name, holding(layers, values, locks, name)) for name in names]
    behind = [
        (sorted((name, value) for (place, name), value in values.items() if place == number),
         sorted(name for place, name in locks if place == number))
        for number in range(layers)
    ]
    return told, [(name,) + pair for name, pair in all_held if pair is not None], behind


def random_deed(chance, layers):
    def number():
        return chance.randint(-1, layers) if chance.random() < 0.1 else chance.randrange(layers)

    name = chance.choice(["", "a", "A", "b", "ab"])
    kind = chance.choice(["set", "set", "set", "unset", "lock", "unlock", "copy", "undo", "undo", "holds"])
    if kind == "set":
        return (kind, number(), name, chance.choice([0, 1, -1, 10 ** 99, -10 ** 99]))
    if kind == "copy":
        return (kind, number(), number())
    if kind == "undo":
        return (kind,)
    if kind == "holds":
        return (kind, name)
    return (kind, number(), name)


class Replay(unittest.TestCase):
    def check(self, layers, deeds):
        told = (answers(layers, deeds), held(layers, deeds), layers_behind(layers, deeds))
        # The repr tells True from 1; the plain question first, as it is the quicker one.
        if told != read_again(layers, deeds) or repr(told) != repr(read_again(layers, deeds)):
            self.fail(f"layers {layers}, deeds {deeds}: {told}, not {read_again(layers, deeds)}")

    def test_every_short_day(self):
        deeds = [
            ("set", 0, "a", 1), ("set", 1, "a", 0), ("set", 2, "a", 3), ("unset", 0, "a"), ("unset", 1, "a"),
            ("lock", 0, "a"), ("lock", 1, "a"), ("unlock", 0, "a"), ("copy", 0, 1), ("copy", 1, 0), ("undo",),
        ]
        for length in range(5):
            for day in itertools.product(deeds, repeat=length):
                self.check(2, list(day) + [("holds", "a")])

    def test_long_days(self):
        for seed in range(60):
            chance = random.Random(seed)
            layers = chance.choice([1, 2, 3, 5, 100])
            self.check(layers, [random_deed(chance, layers) for turn in range(chance.choice([40, 150, 450]))])


if __name__ == "__main__":
    unittest.main()
