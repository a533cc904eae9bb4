import unittest

import told
from shieldwords.desk import at

POINTS = told.walk((0, 101, 287, 288, 430, 575), (0, 67, 239, 240, 391, 479))
FEWER_POINTS = told.walk((0, 250, 575), (0, 203, 479))


def shown(field, points):
    data = told.arms_bytes(field)
    return [at(p, r, data) for p, r in points]


def as_told(field, points):
    return [[told.field_tincture(field, p, r)] for p, r in points]


class PlainFields(unittest.TestCase):
    def test_one_tincture_everywhere(self):
        for tincture in range(9):
            for p, r in told.CORNERS + ((240, 288),):
                self.assertEqual(at(p, r, [0, tincture, 0]), [tincture])


class Lines(unittest.TestCase):
    # s(t), by line, at some t within one turn of 48.
    SHIFTS = {
        0: {0: 0, 12: 0, 24: 0, 36: 0, 47: 0},
        1: {0: 0, 1: 2, 6: 9, 12: 12, 23: 2, 24: 0, 25: -2, 30: -9, 36: -12, 47: -2},
        2: {0: 12, 23: 12, 24: -12, 47: -12},
        3: {0: -12, 1: -11, 12: 0, 23: 11, 24: 12, 36: 0, 47: -11},
        4: {0: 12, 1: 8, 6: -6, 12: -12, 23: 8, 24: 12, 36: -12},
        5: {0: -12, 1: -8, 6: 6, 12: 12, 23: -8, 24: -12, 36: 12},
    }

    def test_an_edge_down_the_shield(self):
        for line, shifts in self.SHIFTS.items():
            for t, shift in shifts.items():
                for r in (t, t + 48, t + 480):
                    data = [1, 0, line, 3, 5, 0]
                    self.assertEqual(at(239 + shift, r, data), [3], (line, r))
                    self.assertEqual(at(240 + shift, r, data), [5], (line, r))

    def test_an_edge_across_the_shield(self):
        for line, shifts in self.SHIFTS.items():
            for t, shift in shifts.items():
                for p in (t, t + 48, t + 432):
                    data = [1, 1, line, 0, 8, 0]
                    self.assertEqual(at(p, 287 + shift, data), [0], (line, p))
                    self.assertEqual(at(p, 288 + shift, data), [8], (line, p))


class PartedFields(unittest.TestCase):
    # By way, straight: points with the first tincture, points with the second.
    SPOTS = (
        (((0, 0), (239, 0), (239, 575)), ((240, 0), (240, 575), (479, 575))),
        (((0, 0), (479, 287)), ((0, 288), (479, 288), (0, 575))),
        (((479, 0), (6, 6), (1, 1)), ((0, 0), (5, 6), (0, 575), (479, 575))),
        (((0, 0), (473, 6)), ((479, 0), (474, 6), (479, 575))),
        (((240, 191), (0, 431), (479, 430), (239, 192)), ((240, 192), (0, 432), (479, 431))),
        (((240, 0), (240, 575)), ((0, 288), (479, 288))),
        (((0, 0), (239, 287), (240, 288), (479, 575)), ((240, 287), (239, 288), (479, 0), (0, 575))),
        (((280, 0), (0, 280), (0, 0), (479, 300)), ((200, 0), (0, 300), (479, 280))),
    )

    def test_both_sides_of_an_edge(self):
        for way, (firsts, seconds) in enumerate(self.SPOTS):
            data = [1, way, 0, 7, 2, 0]
            for p, r in firsts:
                self.assertEqual(at(p, r, data), [7], (way, p, r))
            for p, r in seconds:
                self.assertEqual(at(p, r, data), [2], (way, p, r))

    def test_every_way_by_every_line(self):
        for way in range(8):
            for line in range(6):
                field = (1, way, line, 1, 4)
                self.assertTrue(shown(field, POINTS) == as_told(field, POINTS), (way, line))


class VariedFields(unittest.TestCase):
    # Way, pieces, points with the first tincture, points with the second.
    SPOTS = (
        (0, 6, ((0, 0), (479, 95), (0, 192)), ((0, 96), (0, 191), (479, 575))),
        (1, 6, ((0, 0), (79, 575), (160, 0)), ((80, 0), (159, 575), (479, 0))),
        (2, 2, ((0, 1), (5, 7), (0, 575)), ((0, 0), (5, 6), (479, 0))),
        (3, 2, ((479, 1), (479, 575)), ((479, 0), (474, 6), (0, 0))),
        (4, 2, ((240, 0), (240, 167), (0, 407)), ((240, 168), (0, 408), (479, 575))),
        (5, 5, ((0, 0), (95, 95), (96, 96)), ((96, 95), (95, 96), (479, 575))),
        (6, 2, ((0, 1), (0, 575), (240, 288), (479, 10)), ((0, 0), (5, 6), (240, 287), (479, 0), (479, 575))),
    )

    def test_both_sides_of_an_edge(self):
        for way, pieces, firsts, seconds in self.SPOTS:
            data = [2, way, pieces, 0, 6, 1, 0]
            for p, r in firsts:
                self.assertEqual(at(p, r, data), [6], (way, p, r))
            for p, r in seconds:
                self.assertEqual(at(p, r, data), [1], (way, p, r))

    def test_every_way_by_every_line(self):
        for way in range(7):
            for line in range(1 if way > 4 else 6):
                for pieces in (2, 7, 24):
                    field = (2, way, pieces, line, 0, 3)
                    self.assertTrue(shown(field, FEWER_POINTS) == as_told(field, FEWER_POINTS), (way, pieces, line))

    def test_every_number_of_pieces(self):
        for way in range(7):
            for pieces in range(2, 25):
                field = (2, way, pieces, 0, 5, 8)
                self.assertTrue(shown(field, FEWER_POINTS) == as_told(field, FEWER_POINTS), (way, pieces))

    def test_a_line_that_runs_off_the_shield(self):
        # r + s(p) is below 0 or beyond 575 there, and rounds down all the same.
        self.assertEqual(at(24, 0, [2, 0, 6, 2, 0, 2, 0]), [2])
        self.assertEqual(at(24, 12, [2, 0, 6, 2, 0, 2, 0]), [0])
        self.assertEqual(at(0, 575, [2, 0, 6, 2, 0, 2, 0]), [0])
        self.assertEqual(at(0, 24, [2, 1, 6, 2, 0, 2, 0]), [2])


if __name__ == "__main__":
    unittest.main()
