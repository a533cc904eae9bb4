"""What the document says of arms judged, told anew with the tables of `told`: whole drawings held against others."""

import functools

import told

POINTS = [(16 * x + 8, 16 * y + 8) for y in range(36) for x in range(30)]


@functools.cache
def field_drawn(field):
    return [told.field_tincture(field, p, r) for p, r in POINTS]


@functools.cache
def turned_about(field):
    other = {field[-2]: field[-1], field[-1]: field[-2]}
    return [other[tincture] for tincture in field_drawn(field)]


@functools.cache
def held_points(shape):
    """The places in the drawing of the points that an ordinary or a group has."""
    return frozenset(place for place, (p, r) in enumerate(POINTS) if told.layer_has(shape + (None,), p, r))


def held(layer):
    return held_points(tuple(layer[:-1]))


def drawn(field, layers):
    shown = list(field_drawn(field))
    for layer in layers:
        fill = turned_about(field) if layer[-1] is None else field_drawn(layer[-1])
        for place in held(layer):
            shown[place] = fill[place]
    return shown


def agree(one, other):
    kinds = ["metal"] * 2 + ["colour"] * 5 + ["fur"] * 2
    return kinds[one] == kinds[other] != "fur"


def of_agreeing(fill):
    return fill is not None and fill[0] == 2 and agree(fill[-2], fill[-1])


def on_tincture(field, layers, k):
    fill = layers[k][-1]
    if fill is None or fill[0] != 0 or fill[1] > 6:
        return False
    below = drawn(field, layers[:k])
    return all(agree(fill[1], below[place]) for place in held(layers[k]))


def new_places(field, layers, k):
    before, after = drawn(field, layers[:k]), drawn(field, layers[:k + 1])
    return {place for place in range(1080) if before[place] != after[place]}


def hidden(field, layers, k):
    shown = new_places(field, layers, k)
    for above in layers[k + 1:]:
        shown -= held(above)
    return len(shown) < 4


def misplaced(field, layers, k):
    if k == 0 or told.layer_bytes(layers[k - 1]) <= told.layer_bytes(layers[k]):
        return False
    changed = list(layers[:k - 1]) + [layers[k], layers[k - 1]]
    return drawn(field, changed) == drawn(field, layers[:k + 1])


def judged(field, layers):
    if of_agreeing(field):
        return [1, 0]
    faults = (
        lambda k: of_agreeing(layers[k][-1]),
        lambda k: on_tincture(field, layers, k),
        lambda k: len(new_places(field, layers, k)) < 4,
        lambda k: hidden(field, layers, k),
        lambda k: misplaced(field, layers, k),
    )
    for kind, fault in enumerate(faults, start=1):
        for k in range(len(layers)):
            if fault(k):
                return [kind, k + 1]
    return [0]
