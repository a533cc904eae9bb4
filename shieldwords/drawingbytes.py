"""Drawings as bytes: four bytes ahead, then the runs of each row."""

from shieldwords.bytereader import ByteReader
from shieldwords.drawings import COLUMNS, ROWS

AHEAD = (0x53, 0x48, 0x44, 0x31)


def row_bytes(row):
    data = []
    length = 0
    for x, tincture in enumerate(row):
        length = length + 1
        if x + 1 == len(row) or row[x + 1] != tincture:
            data.append(length)
            data.append(tincture)
            length = 0
    return data


def drawing_bytes(drawn):
    data = list(AHEAD)
    for y in range(ROWS):
        data.extend(row_bytes(drawn[y * COLUMNS:(y + 1) * COLUMNS]))
    return data


def read_row(reader):
    row = []
    tincture = None
    while len(row) < COLUMNS:
        length = reader.take(1, COLUMNS - len(row))
        tincture = reader.take_other_tincture(tincture)
        row.extend([tincture] * length)
    return row


def read_drawing(data):
    reader = ByteReader(data)
    for byte in AHEAD:
        reader.take(byte, byte)
    drawn = []
    for y in range(ROWS):
        drawn.extend(read_row(reader))
    reader.take_end()
    return drawn
