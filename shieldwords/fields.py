"""Fields: which of its tinctures a field has at a point."""

from shieldwords.arms import PARTED, VARIED
from shieldwords.lines import offset
from shieldwords.shield import bend_across, bend_offset, from_middle, sinister_across, sinister_offset


def per_pale(p, r, line):
    return p < 240 + offset(line, r)


def per_fess(p, r, line):
    return r < 288 + offset(line, p)


def per_bend(p, r, line):
    return bend_across(p, r) > bend_offset(p, r, line)


def per_bend_sinister(p, r, line):
    return sinister_across(p, r) > sinister_offset(p, r, line)


def per_chevron(p, r, line):
    return r < 192 + from_middle(p) + offset(line, p)


def per_saltire(p, r, line):
    return per_bend(p, r, line) == per_bend_sinister(p, r, line)


def quarterly(p, r, line):
    return per_pale(p, r, line) == per_fess(p, r, line)


def gyronny(p, r, line):
    return per_saltire(p, r, line) != quarterly(p, r, line)


PARTED_BY_WAY = (per_pale, per_fess, per_bend, per_bend_sinister, per_chevron, per_saltire, quarterly, gyronny)


def barry(p, r, n, line):
    return (r + offset(line, p)) * n // 576


def paly(p, r, n, line):
    return (p + offset(line, r)) * n // 480


def bendy(p, r, n, line):
    return (bend_across(p, r) + 2880 + bend_offset(p, r, line)) * n // 5760


def bendy_sinister(p, r, n, line):
    return (sinister_across(p, r) + 2880 + sinister_offset(p, r, line)) * n // 5760


def chevronny(p, r, n, line):
    return (r - from_middle(p) + 240 + offset(line, p)) * n // 816


# Chequy and lozengy are straight alone; they take a line to be called as the others are.
def chequy(p, r, n, line):
    return p * n // 480 + r * ((6 * n + 4) // 5) // 576


def lozengy(p, r, n, line):
    return (6 * p + 5 * r) * n // 5760 + (bend_across(p, r) + 2880) * n // 5760


VARIED_BY_WAY = (barry, paly, bendy, bendy_sinister, chevronny, chequy, lozengy)


def has_first(field, p, r):
    if field.kind == PARTED:
        return PARTED_BY_WAY[field.way](p, r, field.line)
    if field.kind == VARIED:
        return VARIED_BY_WAY[field.way](p, r, field.pieces, field.line) % 2 == 0
    return True


def field_tincture(field, p, r):
    if has_first(field, p, r):
        return field.first
    return field.second


def counterchanged_tincture(field, p, r):
    if has_first(field, p, r):
        return field.second
    return field.first
