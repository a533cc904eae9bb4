"""Arms and what they are made of, each number as the tables of the document have it."""

PLAIN = 0
PARTED = 1
VARIED = 2

# How many rows each table has.
TINCTURE_ROWS = 9
LINE_ROWS = 6
PARTED_ROWS = 8
VARIED_ROWS = 7
ORDINARY_ROWS = 13
CHARGE_ROWS = 16
MANNER_ROWS = 7

CHEQUY = 5
LOZENGY = 6

LEAST_PIECES = 2
MOST_PIECES = 24
MOST_CHARGES = 10
MOST_SIZE = 4
MOST_LAYERS = 8


# What a kind of field doesn't have is 0; a plain field has its one tincture as both.
class Field:
    def __init__(self, kind, way, pieces, line, first, second):
        self.kind = kind
        self.way = way
        self.pieces = pieces
        self.line = line
        self.first = first
        self.second = second


# The fill of a layer is a field, or None where it is counterchanged.
class OrdinaryLayer:
    def __init__(self, ordinary, line, fill):
        self.ordinary = ordinary
        self.line = line
        self.fill = fill


class GroupLayer:
    def __init__(self, charge, how_many, manner, size, fill):
        self.charge = charge
        self.how_many = how_many
        self.manner = manner
        self.size = size
        self.fill = fill


# The layers are listed from below.
class Arms:
    def __init__(self, field, layers):
        self.field = field
        self.layers = layers
