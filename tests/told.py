"""The document's tables in its own words, and what they say of a point.

The rows below are the document's text as it stands; `formula` turns one into
Python, so that the program is held against the words and not against itself.
"""

import itertools
import re

LINES = (
    ("0", None),
    ("12 - w w / 12", "w w / 12 - 12"),
    ("12", "-12"),
    ("u - 12", "36 - u"),
    ("w w / 6 - 12", None),
    ("12 - w w / 6", None),
)

PARTED = (
    "p < 240 + s(r)",
    "r < 288 + s(p)",
    "b > 8 s(B)",
    "c > 8 s(C)",
    "r < 192 + q + s(p)",
)

VARIED = (
    "(r + s(p)) n / 576",
    "(p + s(r)) n / 480",
    "(b + 2880 + 8 s(B)) n / 5760",
    "(c + 2880 + 8 s(C)) n / 5760",
    "(r - q + 240 + s(p)) n / 816",
    "p n / 480 + r ((6 n + 4) / 5) / 576",
    "(6 p + 5 r) n / 5760 + (b + 2880) n / 5760",
)

ORDINARIES = (
    "r < 160 + s(p)",
    "r ≥ 432 + s(p)",
    "168 + s(r) ≤ p < 312 + s(r)",
    "204 + s(p) ≤ r < 372 + s(p)",
    "|b - 8 s(B)| < 800",
    "|c - 8 s(C)| < 800",
    "0 ≤ r - 168 - q - s(p) < 144",
    "180 + s(r) ≤ p < 300 + s(r), or 228 + s(p) ≤ r < 348 + s(p)",
    "|b - 8 s(B)| < 560, or |c - 8 s(C)| < 560",
    "576 q < 160 (576 - r) + 576 s(r)",
    "p < 48 + s(r), or p ≥ 432 - s(r), or r < 48 + s(p), or r ≥ 528 - s(p)",
    "p < 176 + s(r) and r < 208 + s(p)",
    "p < 240 + s(r) and r < 288 + s(p)",
)

CHARGES = (
    "d < 2304",
    "1024 ≤ d < 2304",
    "4 X + 3 Y < 144",
    "60 ≤ 4 X + 3 Y < 144",
    "3 X + Y < 48",
    "X < 24 and Y < 44",
    "y ≤ 24 and 7 X ≤ 4 (y + 48), or -24 ≤ y and 7 X ≤ 4 (48 - y)",
    "d < 2304 and x x + (y + 18) (y + 18) ≥ 1444",
    "d < 2304 and (x + 18) (x + 18) + y y ≥ 1444",
    "X < 14 and Y < 44, or Y < 14 and X < 44",
    "|X - Y| < 14 and X < 40 and Y < 40",
    "X < 32 and -40 ≤ y and 2 X + y < 72",
    "X < 30 and -20 ≤ y < 44; or -40 ≤ y < -20 and (X < 8 or 22 ≤ X < 38)",
    "X < 4 and Y < 46; or X < 20 and 18 ≤ y < 26",
    "1156 ≤ d < 2304; or d < 1156 and (X < 5 or Y < 5)",
    "X < 4 and Y < 46; or -46 ≤ y < -16 and 2 X < y + 48; or 30 ≤ y < 46 and X < 12",
)

ROWS = "1; 2; 2 1; 2 2; 2 1 2; 3 2 1; 3 3 1; 3 2 3; 3 3 3; 4 3 2 1"
ROW_MIDDLE = ("480 (2 j + 1) / (2 c)", "576 (2 i + 1) / (2 R)")

# By manner from 1: the middles, h before size, and what that is at most.
MANNERS = (
    ("480 (2 k + 1) / (2 N)", "288", "240 / N", 84),
    ("240", "576 (2 k + 1) / (2 N)", "288 / N", 72),
    ("480 (2 k + 1) / (2 N)", "576 (2 k + 1) / (2 N)", "240 / N", 96),
    ("480 - 480 (2 k + 1) / (2 N)", "576 (2 k + 1) / (2 N)", "240 / N", 96),
    ("480 (2 k + 1) / (2 N)", "80", "240 / N", 72),
    ("480 (2 k + 1) / (2 N)", "504", "240 / N", 64),
)

OWN = ("(p - m) 48 / h", "(r - n) 48 / h")

WIDTH = 480
HEIGHT = 576
CORNERS = ((0, 0), (479, 0), (0, 575), (479, 575))


def formula(words, names):
    """A function of these names that gives what the words tell."""
    words = words.replace("≤", "<=").replace("≥", ">=").replace(",", "").replace(";", "")
    words = re.sub(r"\|([^|]*)\|", r"abs(\1)", words)
    out = []
    for sign in re.findall(r"\d+|[A-Za-z]+|<=|>=|\S", words):
        if out and starts_operand(sign) and ends_operand(out[-1]) and not (out[-1] in ("s", "abs") and sign == "("):
            out.append("*")
        out.append("//" if sign == "/" else sign)
    return eval(f"lambda {names}: {' '.join(out)}")


def starts_operand(sign):
    return sign == "(" or sign.isalnum() and sign not in ("and", "or")


def ends_operand(sign):
    return sign == ")" or sign.isalnum() and sign not in ("and", "or")


def line_of(told):
    above = formula(told[0], "u, w")
    below = formula(told[1] or told[0], "u, w")
    return lambda t: (above if t % 48 < 24 else below)(t % 48, t % 24 - 12)


SHIFTS = [line_of(told) for told in LINES]
AT_POINT = "p, r, s, n, b, c, B, C, q"
PARTED_BY_WAY = [formula(words, AT_POINT) for words in PARTED]
VARIED_BY_WAY = [formula(words, AT_POINT) for words in VARIED]
ORDINARY_BY_NUMBER = [formula(words, AT_POINT) for words in ORDINARIES]
CHARGE_BY_NUMBER = [formula(words, "x, y, X, Y, d") for words in CHARGES]
ROW_MIDDLE_BY_AXIS = [formula(words, "i, j, c, R") for words in ROW_MIDDLE]
MANNER_MIDDLES = [(formula(row[0], "k, N"), formula(row[1], "k, N")) for row in MANNERS]
MANNER_HALVES = [formula(row[2], "N") for row in MANNERS]
OWN_BY_AXIS = [formula(words, "p, r, m, n, h") for words in OWN]


def by_table(function, p, r, line, pieces=0):
    other = 479 - p
    return function(
        p, r, SHIFTS[line], pieces,
        6 * p - 5 * r, 6 * other - 5 * r, (5 * p + 6 * r) // 8, (5 * other + 6 * r) // 8, abs(p - 240),
    )


def parted_first(way, line, p, r):
    if way < 5:
        return by_table(PARTED_BY_WAY[way], p, r, line)
    pair = {5: (2, 3), 6: (0, 1), 7: (5, 6)}[way]
    held = [parted_first(each, line, p, r) for each in pair].count(True)
    return held == 1 if way == 7 else held in (0, 2)


def varied_first(way, pieces, line, p, r):
    return by_table(VARIED_BY_WAY[way], p, r, line, pieces) % 2 == 0


def first_of_field(field, p, r):
    if field[0] == 1:
        return parted_first(field[1], field[2], p, r)
    return varied_first(field[1], field[2], field[3], p, r)


def field_tincture(field, p, r):
    if field[0] == 0:
        return field[1]
    return field[-2] if first_of_field(field, p, r) else field[-1]


def ordinary_has(ordinary, line, p, r):
    return by_table(ORDINARY_BY_NUMBER[ordinary], p, r, line)


def charge_has(charge, x, y):
    inside = -48 <= x <= 48 and -48 <= y <= 48
    return inside and CHARGE_BY_NUMBER[charge](x, y, abs(x), abs(y), x * x + y * y)


def rows_of(how_many):
    return [int(each) for each in ROWS.split(";")[how_many - 1].split()]


def middles(manner, how_many):
    if manner == 0:
        rows = rows_of(how_many)
        return [
            tuple(axis(i, j, in_row, len(rows)) for axis in ROW_MIDDLE_BY_AXIS)
            for i, in_row in enumerate(rows)
            for j in range(in_row)
        ]
    return [tuple(axis(k, how_many) for axis in MANNER_MIDDLES[manner - 1]) for k in range(how_many)]


def half_side(manner, how_many, size):
    if manner == 0:
        rows = rows_of(how_many)
        return min(240 // max(rows), 288 // len(rows)) * size // 4
    return min(MANNER_HALVES[manner - 1](how_many), MANNERS[manner - 1][3]) * size // 4


def group_has(charge, how_many, manner, size, p, r):
    half = half_side(manner, how_many, size)
    return any(
        charge_has(charge, *(axis(p, r, m, n, half) for axis in OWN_BY_AXIS)) for m, n in middles(manner, how_many)
    )


def layer_has(layer, p, r):
    if layer[0] == 0:
        return ordinary_has(layer[1], layer[2], p, r)
    return group_has(*layer[1:5], p, r)


def arms_tincture(field, layers, p, r):
    """A layer is its bytes up to the fill, then the fill's field, or None if counterchanged."""
    shown = field_tincture(field, p, r)
    for layer in layers:
        if layer_has(layer, p, r):
            if layer[-1] is None:
                shown = field[-1] if first_of_field(field, p, r) else field[-2]
            else:
                shown = field_tincture(layer[-1], p, r)
    return shown


def layer_bytes(layer):
    fill = [1] if layer[-1] is None else [0] + list(layer[-1])
    return list(layer[:-1]) + fill


def arms_bytes(field, layers=()):
    data = list(field) + [len(layers)]
    for layer in layers:
        data += layer_bytes(layer)
    return data


def answer_by(grammar, data):
    """What check and drawing answer: the grammar yields which bytes can stand next, and is sent the one that does."""
    wanted = next(grammar)
    for place, byte in enumerate(data):
        if wanted is None or byte not in wanted:
            return [-1, place]
        try:
            wanted = grammar.send(byte)
        except StopIteration:
            wanted = None
    return [0] if wanted is None else [-1, len(data)]


HEAD = list(bytes.fromhex("53 48 44 31"))


def drawing_of(field, layers=()):
    """The 36 rows of 30 tinctures that arms are drawn as."""
    return [[arms_tincture(field, layers, 16 * x + 8, 16 * y + 8) for x in range(30)] for y in range(36)]


def row_bytes(row):
    runs = [(len(list(run)), tincture) for tincture, run in itertools.groupby(row)]
    return [byte for run in runs for byte in run]


def drawing_bytes(rows):
    return HEAD + [byte for row in rows for byte in row_bytes(row)]


def random_row(choose, longest=30):
    row = []
    while len(row) < 30:
        row += [choose.randrange(9)] * choose.randint(1, longest)
    return row[:30]


def random_drawing(choose):
    """Any 36 rows, some of them cut up as finely as can be."""
    return [random_row(choose, choose.choice((1, 2, 9, 30))) for row in range(36)]


def walk(rows, columns):
    """Every point of some rows and of some columns: so each edge they cross is met on both sides."""
    points = [(p, r) for r in rows for p in range(WIDTH)]
    return points + [(p, r) for p in columns for r in range(HEIGHT)]


def random_field(choose):
    kind = choose.randrange(3)
    pair = choose.sample(range(9), 2)
    if kind == 0:
        return (0, pair[0])
    if kind == 1:
        return (1, choose.randrange(8), choose.randrange(6), *pair)
    way = choose.randrange(7)
    return (2, way, choose.randint(2, 24), 0 if way > 4 else choose.randrange(6), *pair)


def random_layer(choose, field):
    fill = None if field[0] != 0 and choose.random() < 0.4 else random_field(choose)
    if choose.random() < 0.5:
        return (0, choose.randrange(13), choose.randrange(6), fill)
    return (1, choose.randrange(16), choose.randint(1, 10), choose.randrange(7), choose.randint(1, 4), fill)


def random_arms(choose):
    """Any well made arms, as their field and their layers."""
    field = random_field(choose)
    return field, [random_layer(choose, field) for number in range(choose.randint(0, 8))]
