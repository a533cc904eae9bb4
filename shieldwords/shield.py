"""The shield: its measures, and where a point lies by its diagonals and its middle."""

from shieldwords.lines import offset

WIDTH = 480
HEIGHT = 576


def on_shield(p, r):
    return 0 <= p < WIDTH and 0 <= r < HEIGHT


def bend_across(p, r):
    return 6 * p - 5 * r


def bend_along(p, r):
    return (5 * p + 6 * r) // 8


# The sinister diagonal is the other one in a mirror: what lies p from dexter there lies p from sinister here.
def mirrored(p):
    return WIDTH - 1 - p


def sinister_across(p, r):
    return bend_across(mirrored(p), r)


def sinister_along(p, r):
    return bend_along(mirrored(p), r)


# A diagonal counts in eighths of what a line's offset counts in, so the offset stands eight times.
def bend_offset(p, r, line):
    return 8 * offset(line, bend_along(p, r))


def sinister_offset(p, r, line):
    return 8 * offset(line, sinister_along(p, r))


def from_middle(p):
    return abs(p - WIDTH // 2)
