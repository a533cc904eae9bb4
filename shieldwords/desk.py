"""The calls: each takes what is handed in, changes none of it, and answers a list of whole numbers."""

from shieldwords.armsbytes import NotWellMade, read_arms
from shieldwords.points import arms_tincture
from shieldwords.shield import on_shield

NOT_WELL_MADE = -1
NO_SUCH_POINT = -2


def check(a):
    try:
        read_arms(a)
    except NotWellMade as fault:
        return [NOT_WELL_MADE, fault.place]
    return [0]


def at(p, r, a):
    try:
        arms = read_arms(a)
    except NotWellMade as fault:
        return [NOT_WELL_MADE, fault.place]
    if not on_shield(p, r):
        return [NO_SUCH_POINT]
    return [arms_tincture(arms, p, r)]
