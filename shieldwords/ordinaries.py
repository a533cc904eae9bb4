"""Ordinaries: which points of the shield an ordinary has, by its line."""

from shieldwords.lines import offset
from shieldwords.shield import bend_across, bend_offset, from_middle, sinister_across, sinister_offset


def bend_within(p, r, line, reach):
    return abs(bend_across(p, r) - bend_offset(p, r, line)) < reach


def sinister_within(p, r, line, reach):
    return abs(sinister_across(p, r) - sinister_offset(p, r, line)) < reach


def chief(p, r, line):
    return r < 160 + offset(line, p)


def base(p, r, line):
    return r >= 432 + offset(line, p)


def pale(p, r, line):
    return 168 <= p - offset(line, r) < 312


def fess(p, r, line):
    return 204 <= r - offset(line, p) < 372


def bend(p, r, line):
    return bend_within(p, r, line, 800)


def bend_sinister(p, r, line):
    return sinister_within(p, r, line, 800)


def chevron(p, r, line):
    return 0 <= r - 168 - from_middle(p) - offset(line, p) < 144


def cross(p, r, line):
    return 180 <= p - offset(line, r) < 300 or 228 <= r - offset(line, p) < 348


def saltire(p, r, line):
    return bend_within(p, r, line, 560) or sinister_within(p, r, line, 560)


def pile(p, r, line):
    return 576 * from_middle(p) < 160 * (576 - r) + 576 * offset(line, r)


def bordure(p, r, line):
    across = offset(line, r)
    down = offset(line, p)
    return p < 48 + across or p >= 432 - across or r < 48 + down or r >= 528 - down


def canton(p, r, line):
    return p < 176 + offset(line, r) and r < 208 + offset(line, p)


def quarter(p, r, line):
    return p < 240 + offset(line, r) and r < 288 + offset(line, p)


BY_NUMBER = (chief, base, pale, fess, bend, bend_sinister, chevron, cross, saltire, pile, bordure, canton, quarter)


def ordinary_has(ordinary, line, p, r):
    return BY_NUMBER[ordinary](p, r, line)
