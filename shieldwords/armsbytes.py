"""Arms as bytes: written, and read from bytes that are well made."""

from shieldwords.arms import CHARGE_ROWS, LINE_ROWS, MANNER_ROWS, ORDINARY_ROWS, PARTED_ROWS, TINCTURE_ROWS, VARIED_ROWS
from shieldwords.arms import CHEQUY, LEAST_PIECES, LOZENGY, MOST_CHARGES, MOST_LAYERS, MOST_PIECES, MOST_SIZE
from shieldwords.arms import PARTED, PLAIN, VARIED, Arms, Field, GroupLayer, OrdinaryLayer
from shieldwords.bytereader import ByteReader

ORDINARY_LAYER = 0
GROUP_LAYER = 1

FIELD_FILL = 0
COUNTERCHANGED_FILL = 1


def read_plain(reader):
    tincture = reader.take_row(TINCTURE_ROWS)
    return Field(PLAIN, 0, 0, 0, tincture, tincture)


def read_parted(reader):
    way = reader.take_row(PARTED_ROWS)
    line = reader.take_row(LINE_ROWS)
    first = reader.take_row(TINCTURE_ROWS)
    second = reader.take_other_tincture(first)
    return Field(PARTED, way, 0, line, first, second)


def lines_of_varied(way):
    if way == CHEQUY or way == LOZENGY:
        return 1
    return LINE_ROWS


def read_varied(reader):
    way = reader.take_row(VARIED_ROWS)
    pieces = reader.take(LEAST_PIECES, MOST_PIECES)
    line = reader.take_row(lines_of_varied(way))
    first = reader.take_row(TINCTURE_ROWS)
    second = reader.take_other_tincture(first)
    return Field(VARIED, way, pieces, line, first, second)


def read_field(reader):
    kind = reader.take(PLAIN, VARIED)
    if kind == PLAIN:
        return read_plain(reader)
    if kind == PARTED:
        return read_parted(reader)
    return read_varied(reader)


def read_fill(reader, arms_field):
    most = FIELD_FILL if arms_field.kind == PLAIN else COUNTERCHANGED_FILL
    if reader.take(FIELD_FILL, most) == COUNTERCHANGED_FILL:
        return None
    return read_field(reader)


def read_ordinary_layer(reader, arms_field):
    ordinary = reader.take_row(ORDINARY_ROWS)
    line = reader.take_row(LINE_ROWS)
    fill = read_fill(reader, arms_field)
    return OrdinaryLayer(ordinary, line, fill)


def read_group_layer(reader, arms_field):
    charge = reader.take_row(CHARGE_ROWS)
    how_many = reader.take(1, MOST_CHARGES)
    manner = reader.take_row(MANNER_ROWS)
    size = reader.take(1, MOST_SIZE)
    fill = read_fill(reader, arms_field)
    return GroupLayer(charge, how_many, manner, size, fill)


def read_layer(reader, arms_field):
    if reader.take(ORDINARY_LAYER, GROUP_LAYER) == ORDINARY_LAYER:
        return read_ordinary_layer(reader, arms_field)
    return read_group_layer(reader, arms_field)


def read_arms(data):
    reader = ByteReader(data)
    field = read_field(reader)
    layers = []
    for number in range(reader.take(0, MOST_LAYERS)):
        layers.append(read_layer(reader, field))
    reader.take_end()
    return Arms(field, layers)


def field_bytes(field):
    if field.kind == PLAIN:
        return [PLAIN, field.first]
    if field.kind == PARTED:
        return [PARTED, field.way, field.line, field.first, field.second]
    return [VARIED, field.way, field.pieces, field.line, field.first, field.second]


def fill_bytes(fill):
    if fill is None:
        return [COUNTERCHANGED_FILL]
    return [FIELD_FILL] + field_bytes(fill)


def layer_bytes(layer):
    if isinstance(layer, OrdinaryLayer):
        return [ORDINARY_LAYER, layer.ordinary, layer.line] + fill_bytes(layer.fill)
    group = [GROUP_LAYER, layer.charge, layer.how_many, layer.manner, layer.size]
    return group + fill_bytes(layer.fill)


def arms_bytes(arms):
    data = field_bytes(arms.field) + [len(arms.layers)]
    for layer in arms.layers:
        data.extend(layer_bytes(layer))
    return data
