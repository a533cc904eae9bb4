"""The calls: each takes what is handed in, changes none of it, and answers a list of whole numbers."""

from shieldwords.armsbytes import read_arms
from shieldwords.bytereader import WrongByte
from shieldwords.drawingbytes import drawing_bytes, read_drawing
from shieldwords.drawings import arms_drawing
from shieldwords.points import arms_tincture
from shieldwords.shield import on_shield

NOT_WELL_MADE = -1
NO_SUCH_POINT = -2
NO_DRAWING = -1


def with_length(data):
    return [len(data)] + data


def check(a):
    try:
        read_arms(a)
    except WrongByte as fault:
        return [NOT_WELL_MADE, fault.place]
    return [0]


def at(p, r, a):
    try:
        arms = read_arms(a)
    except WrongByte as fault:
        return [NOT_WELL_MADE, fault.place]
    if not on_shield(p, r):
        return [NO_SUCH_POINT]
    return [arms_tincture(arms, p, r)]


def draw(a):
    try:
        arms = read_arms(a)
    except WrongByte as fault:
        return [NOT_WELL_MADE, fault.place]
    return with_length(drawing_bytes(arms_drawing(arms)))


def drawing(d):
    try:
        read_drawing(d)
    except WrongByte as fault:
        return [NO_DRAWING, fault.place]
    return [0]
