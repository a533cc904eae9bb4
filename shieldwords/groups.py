"""Groups: where the charges of a group stand, how large they are, and which points they have."""

from shieldwords.charges import REACH, charge_has
from shieldwords.shield import HEIGHT, WIDTH

IN_ROWS = 0
IN_FESS = 1
IN_PALE = 2
IN_BEND = 3
IN_BEND_SINISTER = 4
IN_CHIEF = 5
IN_BASE = 6

# How many charges each row has, from the top: for one charge, for two, and so on to ten.
ROWS = (
    (1,), (2,), (2, 1), (2, 2), (2, 1, 2),
    (3, 2, 1), (3, 3, 1), (3, 2, 3), (3, 3, 3), (4, 3, 2, 1),
)


# The middle of the k-th (from 0) of so many like parts of a length.
def part_middle(length, k, parts):
    return length * (2 * k + 1) // (2 * parts)


def middles_in_rows(how_many):
    rows = ROWS[how_many - 1]
    middles = []
    for i, in_row in enumerate(rows):
        for j in range(in_row):
            middles.append((part_middle(WIDTH, j, in_row), part_middle(HEIGHT, i, len(rows))))
    return middles


def middle(manner, k, how_many):
    across = part_middle(WIDTH, k, how_many)
    down = part_middle(HEIGHT, k, how_many)
    if manner == IN_FESS:
        return (across, 288)
    if manner == IN_PALE:
        return (240, down)
    if manner == IN_BEND:
        return (across, down)
    if manner == IN_BEND_SINISTER:
        return (WIDTH - across, down)
    if manner == IN_CHIEF:
        return (across, 80)
    return (across, 504)


def group_middles(manner, how_many):
    if manner == IN_ROWS:
        return middles_in_rows(how_many)
    return [middle(manner, k, how_many) for k in range(how_many)]


def half_before_size(manner, how_many):
    if manner == IN_ROWS:
        rows = ROWS[how_many - 1]
        return min(240 // max(rows), 288 // len(rows))
    if manner == IN_PALE:
        return min(288 // how_many, 72)
    across = 240 // how_many
    if manner == IN_FESS:
        return min(across, 84)
    if manner == IN_CHIEF:
        return min(across, 72)
    if manner == IN_BASE:
        return min(across, 64)
    return min(across, 96)


def half_side(manner, how_many, size):
    return half_before_size(manner, how_many) * size // 4


def charges_have(charge, half, middles, p, r):
    for m, n in middles:
        if charge_has(charge, (p - m) * REACH // half, (r - n) * REACH // half):
            return True
    return False


# For each of the points, whether the group has it: where its charges stand is found once for all of them.
def group_has_points(group, points):
    half = half_side(group.manner, group.how_many, group.size)
    middles = group_middles(group.manner, group.how_many)
    return [charges_have(group.charge, half, middles, p, r) for p, r in points]
