"""Points of arms: which layer has a point, and which tincture it has."""

from shieldwords.arms import OrdinaryLayer
from shieldwords.fields import counterchanged_tincture, field_tincture
from shieldwords.groups import group_has_points
from shieldwords.ordinaries import ordinary_has


# For each of the points, whether the layer has it.
def layer_has_points(layer, points):
    if isinstance(layer, OrdinaryLayer):
        return [ordinary_has(layer.ordinary, layer.line, p, r) for p, r in points]
    return group_has_points(layer, points)


# A counterchanged layer turns the arms' own field about, whatever layers lie between.
def layer_tincture(layer, arms_field, p, r):
    if layer.fill is None:
        return counterchanged_tincture(arms_field, p, r)
    return field_tincture(layer.fill, p, r)


def arms_tincture(arms, p, r):
    for layer in reversed(arms.layers):
        if layer_has_points(layer, [(p, r)])[0]:
            return layer_tincture(layer, arms.field, p, r)
    return field_tincture(arms.field, p, r)
