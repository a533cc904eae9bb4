"""Arms judged: the first fault for which they may not be granted, by what is drawn."""

from shieldwords.arms import PLAIN, VARIED
from shieldwords.armsbytes import layer_bytes
from shieldwords.drawings import field_drawing, laid_over, layer_cover

METALS = (0, 1)
COLOURS = (2, 3, 4, 5, 6)

# A layer that makes a difference at fewer points than these makes none that counts.
ENOUGH_POINTS = 4

AGREEING_PIECES = 1


def agree(one, other):
    return one in METALS and other in METALS or one in COLOURS and other in COLOURS


# Layers are asked for by their number, from 1 from below. Stage k is the drawing of the arms up to layer k.
class Stack:
    def __init__(self, arms):
        self.layers = arms.layers
        self.covers = [layer_cover(layer, arms.field) for layer in arms.layers]
        self.stages = [field_drawing(arms.field)]
        for cover in self.covers:
            self.stages.append(laid_over(self.stages[-1], cover))

    def layer(self, number):
        return self.layers[number - 1]

    def cover(self, number):
        return self.covers[number - 1]

    def numbers(self):
        return list(range(1, len(self.layers) + 1))

    def covers_above(self, number):
        return self.covers[number:]


def has_agreeing_pieces(field):
    return field.kind == VARIED and agree(field.first, field.second)


def is_filled_with_agreeing_pieces(stack, number):
    fill = stack.layer(number).fill
    return fill is not None and has_agreeing_pieces(fill)


# A fur agrees with nothing; but a layer of it that has no point would pass for tincture on tincture.
def is_filled_with_metal_or_colour(layer):
    fill = layer.fill
    return fill is not None and fill.kind == PLAIN and agree(fill.first, fill.first)


def is_tincture_on_tincture(stack, number):
    if not is_filled_with_metal_or_colour(stack.layer(number)):
        return False
    for over, under in zip(stack.cover(number), stack.stages[number - 1]):
        if over is not None and not agree(over, under):
            return False
    return True


# The places in the drawing at which a layer makes a difference to the arms up to it.
def new_places(stack, number):
    with_it = stack.stages[number]
    without_it = stack.stages[number - 1]
    return [place for place, tincture in enumerate(with_it) if tincture != without_it[place]]


def shows_nothing_new(stack, number):
    return len(new_places(stack, number)) < ENOUGH_POINTS


def is_shown(place, covers_above):
    return all([cover[place] is None for cover in covers_above])


def is_hidden(stack, number):
    covers_above = stack.covers_above(number)
    shown = [place for place in new_places(stack, number) if is_shown(place, covers_above)]
    return len(shown) < ENOUGH_POINTS


def may_change_places(stack, number):
    lowered = laid_over(stack.stages[number - 2], stack.cover(number))
    changed = laid_over(lowered, stack.cover(number - 1))
    return changed == stack.stages[number]


def is_misplaced(stack, number):
    if number == 1:
        return False
    if layer_bytes(stack.layer(number - 1)) <= layer_bytes(stack.layer(number)):
        return False
    return may_change_places(stack, number)


# In the order of their kinds, from 1.
LAYER_FAULTS = (
    is_filled_with_agreeing_pieces, is_tincture_on_tincture, shows_nothing_new, is_hidden, is_misplaced,
)


# The kind and the layer's number, which is 0 for the arms' own field; nothing if there is no fault.
def first_fault(arms):
    if has_agreeing_pieces(arms.field):
        return [AGREEING_PIECES, 0]
    stack = Stack(arms)
    for kind, is_faulty in enumerate(LAYER_FAULTS, start=1):
        for number in stack.numbers():
            if is_faulty(stack, number):
                return [kind, number]
    return []
