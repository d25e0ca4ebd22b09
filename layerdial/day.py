"""A day: its deeds done one by one, its answers, and what is there behind it."""

from layerdial.dial import Dial


def answer(settings, deed):
    kind = deed[0]
    if kind == "set":
        return settings.set_value(deed[1], deed[2], deed[3])
    if kind == "unset":
        return settings.unset_value(deed[1], deed[2])
    if kind == "lock":
        return settings.lock(deed[1], deed[2])
    if kind == "unlock":
        return settings.unlock(deed[1], deed[2])
    if kind == "copy":
        return settings.copy_values(deed[1], deed[2])
    if kind == "undo":
        return settings.undo()
    return settings.holds(deed[1])


def done(settings, deeds):
    told = []
    for deed in deeds:
        told.append(answer(settings, deed))
    return told


def answers(layers, deeds):
    """The answers of a day, one for each deed."""
    return done(Dial(layers), deeds)


def settings_behind(layers, deeds):
    settings = Dial(layers)
    done(settings, deeds)
    return settings


def held(layers, deeds):
    """What holds behind a day: (name, value, layer) for each name for which something holds, in their order."""
    settings = settings_behind(layers, deeds)
    told = []
    for name in settings.names_with_value():
        holding = settings.holds(name)
        if holding is not None:
            told.append((name, holding[0], holding[1]))
    return told


def layers_behind(layers, deeds):
    """A pair for each layer, the furthest first: its pairs (name, value) and its locked names, each in order."""
    settings = settings_behind(layers, deeds)
    return [(sorted(layer.valued.items()), sorted(layer.locked)) for layer in settings.layers]
