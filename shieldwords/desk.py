"""The calls: each takes what is handed in, changes none of it, and answers a list of whole numbers."""

from shieldwords.armsbytes import arms_bytes, read_arms
from shieldwords.blazonprinter import blazon_bytes
from shieldwords.blazonreader import read_blazon
from shieldwords.blazontokens import BlazonFault
from shieldwords.bytereader import WrongByte
from shieldwords.distance import distance, distance_at_open_points, too_like
from shieldwords.drawingbytes import drawing_bytes, read_drawing
from shieldwords.drawings import arms_drawing
from shieldwords.judgement import first_fault
from shieldwords.points import arms_tincture
from shieldwords.shield import on_shield

NOT_WELL_MADE = -1
NO_SUCH_POINT = -2
NO_DRAWING = -1
OTHER_NO_DRAWING = -3
NO_SUCH_CHOICE = -2


# Of two drawings' bytes the first that are none's: the number that is answered for them, and the place.
class NoPair(ValueError):
    def __init__(self, number, place):
        ValueError.__init__(self, number, place)
        self.number = number
        self.place = place


def read_pair(d, e):
    try:
        one = read_drawing(d)
    except WrongByte as fault:
        raise NoPair(NO_DRAWING, fault.place) from None
    try:
        other = read_drawing(e)
    except WrongByte as fault:
        raise NoPair(OTHER_NO_DRAWING, fault.place) from None
    return (one, other)


def with_length(data):
    return [len(data)] + data


def check(a):
    try:
        read_arms(a)
    except WrongByte as fault:
        return [NOT_WELL_MADE, fault.place]
    return [0]


def at(p, r, a):
    try:
        arms = read_arms(a)
    except WrongByte as fault:
        return [NOT_WELL_MADE, fault.place]
    if not on_shield(p, r):
        return [NO_SUCH_POINT]
    return [arms_tincture(arms, p, r)]


def draw(a):
    try:
        arms = read_arms(a)
    except WrongByte as fault:
        return [NOT_WELL_MADE, fault.place]
    return with_length(drawing_bytes(arms_drawing(arms)))


def drawing(d):
    try:
        read_drawing(d)
    except WrongByte as fault:
        return [NO_DRAWING, fault.place]
    return [0]


def apart(o, d, e):
    try:
        pair = read_pair(d, e)
    except NoPair as fault:
        return [fault.number, fault.place]
    if o == 0:
        return [distance(pair[0], pair[1])]
    if o == 1:
        return [distance_at_open_points(pair[0], pair[1])]
    return [NO_SUCH_CHOICE]


def like(d, e):
    try:
        pair = read_pair(d, e)
    except NoPair as fault:
        return [fault.number, fault.place]
    if too_like(pair[0], pair[1]):
        return [1]
    return [0]


def read(t):
    try:
        arms = read_blazon(t)
    except BlazonFault as fault:
        return [-fault.kind, fault.place]
    return with_length(arms_bytes(arms))


# The words' call print: that name is Python's own.
def print_of(a):
    try:
        arms = read_arms(a)
    except WrongByte as fault:
        return [NOT_WELL_MADE, fault.place]
    return with_length(blazon_bytes(arms))


def judge(a):
    try:
        arms = read_arms(a)
    except WrongByte as fault:
        return [NOT_WELL_MADE, fault.place]
    found = first_fault(arms)
    if found == []:
        return [0]
    return found
