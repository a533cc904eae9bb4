"""How far apart two drawings are, and whether they are too like."""

from shieldwords.drawings import drawn_points

# Two drawings that are apart at fewer of the open points than these are too like.
ENOUGH_APART = 68


def is_open_point(p, r):
    return r >= 96 and not (p < 160 and r < 288)


def points_apart(one, other):
    return [point for point, mine, yours in zip(drawn_points(), one, other) if mine != yours]


def distance(one, other):
    return len(points_apart(one, other))


def distance_at_open_points(one, other):
    return len([p for p, r in points_apart(one, other) if is_open_point(p, r)])


def too_like(one, other):
    return distance_at_open_points(one, other) < ENOUGH_APART
