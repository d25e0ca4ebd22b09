"""The layers with their values and locks, and the way back to what they were."""

from layerdial.deciding import decided


def with_entry(entries, name, entry):
    grown = dict(entries)
    grown[name] = entry
    return grown


def without_entry(entries, name):
    shrunk = dict(entries)
    shrunk.pop(name)
    return shrunk


class Layer:
    """The values of one layer by their names, and its locks, a dict of True by their names.

    A layer and its dicts are never changed once made, only replaced by others:
    so two layers may share a dict, and what is kept for undoing stays as it was.
    """

    def __init__(self, valued, locked):
        self.valued = valued
        self.locked = locked


class Dial:
    """All layers, the furthest one first. The method of a deed gives True where it is done, False where refused."""

    def __init__(self, layers):
        self.layers = [Layer({}, {}) for number in range(layers)]
        # The list of layers as it was ahead of each deed that is done and not undone yet.
        self.past = []

    def is_there(self, number):
        # A number below nought would count from the list's end.
        return 0 <= number < len(self.layers)

    def has_value(self, number, name):
        return self.is_there(number) and name in self.layers[number].valued

    def has_lock(self, number, name):
        return self.is_there(number) and name in self.layers[number].locked

    def put(self, number, valued, locked):
        self.past.append(self.layers)
        self.layers = self.layers[:number] + [Layer(valued, locked)] + self.layers[number + 1:]
        return True

    def set_value(self, number, name, value):
        if not self.is_there(number):
            return False
        layer = self.layers[number]
        return self.put(number, with_entry(layer.valued, name, value), layer.locked)

    def unset_value(self, number, name):
        if not self.has_value(number, name):
            return False
        layer = self.layers[number]
        return self.put(number, without_entry(layer.valued, name), layer.locked)

    def lock(self, number, name):
        if not self.is_there(number) or self.has_lock(number, name):
            return False
        layer = self.layers[number]
        return self.put(number, layer.valued, with_entry(layer.locked, name, True))

    def unlock(self, number, name):
        if not self.has_lock(number, name):
            return False
        layer = self.layers[number]
        return self.put(number, layer.valued, without_entry(layer.locked, name))

    def copy_values(self, one, other):
        if not self.is_there(one) or not self.is_there(other) or one == other:
            return False
        return self.put(other, self.layers[one].valued, self.layers[other].locked)

    def undo(self):
        if len(self.past) == 0:
            return False
        self.layers = self.past.pop()
        return True

    def holds(self, name):
        return decided([(layer.valued.get(name), name in layer.locked) for layer in self.layers])

    def names_with_value(self):
        found = {}
        for layer in self.layers:
            found.update(layer.valued)
        return sorted(found)
