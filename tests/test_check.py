import random
import unittest

import told
from shieldwords.desk import check

PLAIN = [0, 3]
PARTED = [1, 4, 2, 0, 5]
VARIED = [2, 0, 6, 1, 0, 5]
ORDINARY = [0, 6, 3, 0, 0, 1]
GROUP = [1, 6, 3, 0, 3, 0, 0, 1]

WELL_MADE = (
    [0, 0, 0],
    [0, 8, 0],
    PARTED + [0],
    VARIED + [0],
    PLAIN + [1] + ORDINARY,
    PLAIN + [1] + GROUP,
    PARTED + [2] + ORDINARY + GROUP,
    PARTED + [1, 0, 12, 5, 1],
    VARIED + [1, 1, 15, 10, 6, 4, 1],
    PLAIN + [2, 0, 0, 0, 0, 1, 7, 5, 8, 7, 1, 0, 1, 0, 1, 0, 2, 5, 24, 0, 7, 8],
    VARIED + [3, 0, 0, 0, 1, 0, 1, 0, 0, 2, 6, 2, 0, 0, 1, 1, 2, 2, 2, 2, 1],
    PLAIN + [8] + ORDINARY * 8,
    VARIED + [8] + GROUP * 7 + [0, 1, 1, 1],
)

# The longest arms there are: 103 bytes.
LONGEST = [2, 1, 24, 5, 8, 7, 8] + [1, 15, 10, 6, 4, 0, 2, 4, 24, 5, 7, 8] * 8


def bytes_that_can_stand():
    """The grammar of arms, byte by byte: yields which bytes can stand next, and is sent the one that does."""
    kind = yield from field_bytes()
    for number in range((yield range(9))):
        if (yield range(2)) == 0:
            yield range(13)
            yield range(6)
        else:
            yield range(16)
            yield range(1, 11)
            yield range(7)
            yield range(1, 5)
        if (yield range(1 if kind == 0 else 2)) == 0:
            yield from field_bytes()


def field_bytes():
    kind = yield range(3)
    if kind == 0:
        yield range(9)
        return kind
    way = yield range(8 if kind == 1 else 7)
    if kind == 2:
        yield range(2, 25)
    yield range(1 if kind == 2 and way in (5, 6) else 6)
    first = yield range(9)
    yield [tincture for tincture in range(9) if tincture != first]
    return kind


def as_told(data):
    return told.answer_by(bytes_that_can_stand(), data)


class WellMade(unittest.TestCase):
    def test_well_made_arms(self):
        for data in WELL_MADE:
            self.assertEqual(check(data), [0], data)

    def test_the_longest(self):
        self.assertEqual(len(LONGEST), 103)
        self.assertEqual(check(LONGEST), [0])

    def test_every_field(self):
        for tincture in range(9):
            self.assertEqual(check([0, tincture, 0]), [0])
        for way in range(8):
            for line in range(6):
                self.assertEqual(check([1, way, line, 8, 0, 0]), [0])
        for way in range(7):
            for pieces in range(2, 25):
                self.assertEqual(check([2, way, pieces, 0, 8, 0, 0]), [0])

    def test_every_layer(self):
        for ordinary in range(13):
            for line in range(6):
                self.assertEqual(check(PLAIN + [1, 0, ordinary, line, 0, 0, 1]), [0])
        for charge in range(16):
            for how_many in range(1, 11):
                for manner in range(7):
                    for size in range(1, 5):
                        self.assertEqual(check(PLAIN + [1, 1, charge, how_many, manner, size, 0, 0, 1]), [0])

    def test_every_pair_of_tinctures(self):
        for first in range(9):
            for second in range(9):
                self.assertEqual(check([1, 0, 0, first, second, 0]), [-1, 4] if first == second else [0])
                self.assertEqual(check([2, 0, 2, 0, first, second, 0]), [-1, 5] if first == second else [0])


class NotWellMade(unittest.TestCase):
    def faults(self, rows):
        for data, place in rows:
            self.assertEqual(check(data), [-1, place], data)

    def test_nothing(self):
        self.assertEqual(check([]), [-1, 0])

    def test_more_are_wanted(self):
        for data in WELL_MADE + (LONGEST,):
            for length in range(len(data)):
                self.assertEqual(check(data[:length]), [-1, length], data)

    def test_bytes_too_many(self):
        for data in WELL_MADE + (LONGEST,):
            for byte in (0, 1, 255):
                self.assertEqual(check(data + [byte]), [-1, len(data)], data)
            self.assertEqual(check(data + [0] * (300 - len(data))), [-1, len(data)], data)

    def test_fields(self):
        self.faults((
            ([3], 0), ([255], 0),
            ([0, 9, 0], 1), ([0, 255], 1),
            ([1, 8, 0, 0, 1, 0], 1), ([1, 7, 6, 0, 1, 0], 2), ([1, 7, 5, 9, 1, 0], 3), ([1, 7, 5, 8, 9, 0], 4),
            ([2, 7, 2, 0, 0, 1, 0], 1), ([2, 4, 2, 6, 0, 1, 0], 3), ([2, 4, 2, 5, 9, 1, 0], 4),
            ([2, 4, 2, 5, 8, 9, 0], 5),
        ))

    def test_pieces(self):
        for way in range(7):
            self.faults((([2, way, pieces, 0, 0, 1, 0], 2) for pieces in (0, 1, 25, 255)))
            for pieces in (2, 24):
                self.assertEqual(check([2, way, pieces, 0, 0, 1, 0]), [0])

    def test_the_same_tincture_twice(self):
        self.faults((
            ([1, 0, 0, 4, 4, 0], 4),
            ([2, 0, 2, 0, 4, 4, 0], 5),
            (PLAIN + [1, 0, 0, 0, 0, 1, 0, 0, 7, 7], 11),
            (PARTED + [1, 1, 0, 1, 0, 1, 0, 2, 0, 2, 0, 0, 0], 17),
        ))

    def test_chequy_and_lozengy_are_straight(self):
        for way in (5, 6):
            self.faults((([2, way, 2, line, 0, 1, 0], 3) for line in (1, 2, 3, 4, 5, 6)))
            self.faults(((PLAIN + [1, 0, 0, 0, 0, 2, way, 2, line, 0, 1], 10) for line in (1, 5)))
        for way in range(5):
            self.assertEqual(check([2, way, 2, 5, 0, 1, 0]), [0])

    def test_layers(self):
        self.faults((
            (PLAIN + [1, 2], 3), (PLAIN + [1, 255], 3),
            (PLAIN + [1, 0, 13, 0, 0, 0, 0], 4), (PLAIN + [1, 0, 12, 6, 0, 0, 0], 5),
            (PLAIN + [1, 0, 12, 5, 2, 0, 0], 6), (PARTED + [1, 0, 12, 5, 2, 0, 0], 9),
            (PLAIN + [1, 0, 12, 5, 0, 3, 0], 7), (PLAIN + [1, 0, 12, 5, 0, 0, 9], 8),
            (PLAIN + [1, 1, 16, 1, 0, 1, 0, 0, 0], 4), (PLAIN + [1, 1, 15, 0, 0, 1, 0, 0, 0], 5),
            (PLAIN + [1, 1, 15, 11, 0, 1, 0, 0, 0], 5), (PLAIN + [1, 1, 15, 10, 7, 1, 0, 0, 0], 6),
            (PLAIN + [1, 1, 15, 10, 6, 0, 0, 0, 0], 7), (PLAIN + [1, 1, 15, 10, 6, 5, 0, 0, 0], 7),
            (PLAIN + [1, 1, 15, 10, 6, 4, 2, 0, 0], 8), (VARIED + [1, 1, 15, 10, 6, 4, 2, 0, 0], 12),
        ))

    def test_counterchanged_over_a_plain_field(self):
        self.faults((
            (PLAIN + [1, 0, 0, 0, 1], 6),
            (PLAIN + [1, 1, 0, 1, 0, 1, 1], 8),
            # A fill of two tinctures below makes no difference: it is the arms' own field that counts.
            (PLAIN + [2, 0, 0, 0, 0, 1, 0, 0, 1, 2, 0, 0, 0, 1], 15),
        ))

    def test_nine_layers(self):
        self.assertEqual(check(PLAIN + [8] + ORDINARY * 8), [0])
        self.faults(((PLAIN + [9] + ORDINARY * 9, 2), (PLAIN + [255], 2), (PARTED + [9], 5), (VARIED + [9], 6)))

    def test_layers_that_are_not_as_many_as_told(self):
        self.faults((
            (PLAIN + [2] + ORDINARY, 9), (PLAIN + [1] + ORDINARY * 2, 9), (PLAIN + [0] + ORDINARY, 3),
            (PLAIN + [8] + ORDINARY * 7, 45), (PLAIN + [8] + ORDINARY * 9, 51),
        ))

    def test_the_first_of_several(self):
        self.faults((([0, 9, 9], 1), ([2, 9, 99, 9, 9, 9, 9], 1), (PLAIN + [1, 1, 16, 11, 7, 5, 2], 4)))


class EveryByte(unittest.TestCase):
    def test_every_byte_at_every_place(self):
        for data in WELL_MADE[:11]:
            for place in range(len(data) + 1):
                for byte in range(256):
                    changed = data[:place] + [byte] + data[place + 1:]
                    self.assertEqual(check(changed), as_told(changed), changed)

    def test_many_arms_with_one_byte_changed(self):
        choose = random.Random(4713)
        for number in range(3000):
            data = told.arms_bytes(*told.random_arms(choose))
            self.assertEqual(check(data), [0], data)
            data[choose.randrange(len(data))] = choose.randrange(26)
            self.assertEqual(check(data), as_told(data), data)

    def test_any_bytes(self):
        choose = random.Random(99)
        for number in range(3000):
            data = [choose.choice((0, 1, 2, 3, 5, 8, 255)) for byte in range(choose.randrange(40))]
            self.assertEqual(check(data), as_told(data), data)


if __name__ == "__main__":
    unittest.main()
