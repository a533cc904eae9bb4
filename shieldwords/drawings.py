"""Drawings: the tinctures of 36 rows of 30 points, listed from the top, each row from dexter."""

from shieldwords.fields import field_tincture
from shieldwords.points import layer_has_points, layer_tincture

ROWS = 36
COLUMNS = 30

# The points lie 16 from one another, the first ones 8 from the shield's edges.
STEP = 16
MARGIN = 8


def drawn_points():
    points = []
    for y in range(ROWS):
        for x in range(COLUMNS):
            points.append((STEP * x + MARGIN, STEP * y + MARGIN))
    return points


def field_drawing(field):
    return [field_tincture(field, p, r) for p, r in drawn_points()]


def cover_at(layer, arms_field, point, held):
    if held:
        return layer_tincture(layer, arms_field, point[0], point[1])
    return None


# A layer's cover: its tincture at each point of the drawing that it has, None at the others.
def layer_cover(layer, arms_field):
    points = drawn_points()
    held_points = layer_has_points(layer, points)
    return [cover_at(layer, arms_field, point, held) for point, held in zip(points, held_points)]


def laid_over(below, cover):
    return [under if over is None else over for under, over in zip(below, cover)]


def arms_drawing(arms):
    drawn = field_drawing(arms.field)
    for layer in arms.layers:
        drawn = laid_over(drawn, layer_cover(layer, arms.field))
    return drawn
