import unittest

import told
from shieldwords.desk import at

# h before size, by manner, for one charge to ten.
HALVES = (
    (240, 120, 120, 120, 96, 80, 80, 80, 80, 60),
    (84, 84, 80, 60, 48, 40, 34, 30, 26, 24),
    (72, 72, 72, 72, 57, 48, 41, 36, 32, 28),
    (96, 96, 80, 60, 48, 40, 34, 30, 26, 24),
    (96, 96, 80, 60, 48, 40, 34, 30, 26, 24),
    (72, 72, 72, 60, 48, 40, 34, 30, 26, 24),
    (64, 64, 64, 60, 48, 40, 34, 30, 26, 24),
)

# The middles of some groups: by manner and how many.
MIDDLES = {
    (0, 1): ((240, 288),),
    (0, 2): ((120, 288), (360, 288)),
    (0, 3): ((120, 144), (360, 144), (240, 432)),
    (0, 4): ((120, 144), (360, 144), (120, 432), (360, 432)),
    (0, 5): ((120, 96), (360, 96), (240, 288), (120, 480), (360, 480)),
    (0, 6): ((80, 96), (240, 96), (400, 96), (120, 288), (360, 288), (240, 480)),
    (0, 7): ((80, 96), (240, 96), (400, 96), (80, 288), (240, 288), (400, 288), (240, 480)),
    (0, 8): ((80, 96), (240, 96), (400, 96), (120, 288), (360, 288), (80, 480), (240, 480), (400, 480)),
    (0, 9): (
        (80, 96), (240, 96), (400, 96), (80, 288), (240, 288), (400, 288), (80, 480), (240, 480), (400, 480),
    ),
    (0, 10): (
        (60, 72), (180, 72), (300, 72), (420, 72), (80, 216), (240, 216), (400, 216), (120, 360), (360, 360),
        (240, 504),
    ),
    (1, 3): ((80, 288), (240, 288), (400, 288)),
    (1, 7): ((34, 288), (102, 288), (171, 288), (240, 288), (308, 288), (377, 288), (445, 288)),
    (2, 2): ((240, 144), (240, 432)),
    (2, 5): ((240, 57), (240, 172), (240, 288), (240, 403), (240, 518)),
    (3, 3): ((80, 96), (240, 288), (400, 480)),
    (3, 7): ((34, 41), (102, 123), (171, 205), (240, 288), (308, 370), (377, 452), (445, 534)),
    (4, 3): ((400, 96), (240, 288), (80, 480)),
    (4, 7): ((446, 41), (378, 123), (309, 205), (240, 288), (172, 370), (103, 452), (35, 534)),
    (5, 3): ((80, 80), (240, 80), (400, 80)),
    (6, 4): ((60, 504), (180, 504), (300, 504), (420, 504)),
}


def group_bytes(charge, how_many, manner, size):
    return [0, 0, 1, 1, charge, how_many, manner, size, 0, 0, 2]


def has(charge, how_many, manner, size, p, r):
    return at(p, r, group_bytes(charge, how_many, manner, size)) == [2]


def on_shield(points):
    return [(p, r) for p, r in points if 0 <= p < told.WIDTH and 0 <= r < told.HEIGHT]


class Charges(unittest.TestCase):
    # One charge in base of size 3 has its middle at (240, 504) and h 48: its own points are the shield's.
    # By charge: points that it has, points that it hasn't.
    SPOTS = (
        (((0, 0), (47, 0), (0, -47), (33, 34)), ((48, 0), (-48, 0), (34, 34))),
        (((32, 0), (0, -47), (47, 9)), ((0, 0), (31, 0), (48, 0), (31, 7))),
        (((35, 0), (0, 47), (-18, -23)), ((36, 0), (0, 48), (18, 24))),
        (((15, 0), (0, 20), (35, 0)), ((14, 0), (0, 19), (36, 0), (0, 0))),
        (((15, 2), (0, 47), (-15, -2)), ((16, 0), (15, 3), (0, 48))),
        (((23, 43), (-23, -43)), ((24, 0), (0, 44), (-24, 0))),
        (((0, -48), (0, 48), (41, 24), (-41, -24), (27, 0)), ((42, 24), (41, 25), (28, 0), (1, -48))),
        (((0, 20), (47, 0), (0, 47)), ((0, 0), (0, 19), (0, -47), (0, 48), (33, 0))),
        (((20, 0), (0, 47), (47, 0)), ((0, 0), (19, 0), (-47, 0), (48, 0), (0, 33))),
        (((13, 43), (43, 13), (-13, -43)), ((14, 14), (0, 44), (44, 0))),
        (((0, 0), (39, 39), (39, 26), (13, 0), (-39, 39)), ((40, 39), (39, 25), (14, 0), (40, 40))),
        (((0, -40), (31, 9), (11, 48), (0, 48)), ((0, -41), (32, 0), (31, 10), (12, 48), (0, 49))),
        (((29, 43), (29, -20), (7, -40), (22, -21), (37, -21)), ((30, 0), (0, 44), (8, -21), (21, -21), (38, -21))),
        (((3, 45), (3, -45), (19, 18), (19, 25)), ((4, 0), (0, 46), (0, -46), (20, 18), (19, 17), (19, 26))),
        (((34, 0), (47, 0), (4, 30), (30, 4), (0, 0)), ((5, 5), (48, 0), (5, 33), (33, 5))),
        (((3, 45), (0, -45), (11, 30), (11, 45), (15, -17)), ((4, 0), (12, 30), (11, 29), (16, -17), (15, -16), (1, -46))),
    )

    def test_both_sides_of_an_edge(self):
        for charge, (inside, outside) in enumerate(self.SPOTS):
            for x, y in inside:
                self.assertTrue(has(charge, 1, 6, 3, 240 + x, 504 + y), (charge, x, y))
            for x, y in outside:
                self.assertFalse(has(charge, 1, 6, 3, 240 + x, 504 + y), (charge, x, y))

    def test_every_own_point_of_every_charge(self):
        for charge in range(16):
            data = group_bytes(charge, 1, 6, 3)
            for y in range(-50, 51):
                shown = [at(240 + x, 504 + y, data) == [2] for x in range(-50, 51)]
                as_told = [told.charge_has(charge, x, y) for x in range(-50, 51)]
                self.assertTrue(shown == as_told, (charge, y))


class Groups(unittest.TestCase):
    def test_middles(self):
        for (manner, how_many), middles in MIDDLES.items():
            half = HALVES[manner][how_many - 1] // 4
            for m, n in middles:
                # A roundel reaches as far as h - 1 to sinister and down, and no farther.
                for p, r, held in ((m, n, True), (m + half - 1, n, True), (m, n + half - 1, True),
                                   (m + half, n, False), (m, n + half, False)):
                    self.assertEqual(has(0, how_many, manner, 1, p, r), held, (manner, how_many, p, r))

    def test_half_sides_by_every_size(self):
        for manner, halves in enumerate(HALVES):
            for how_many, whole in enumerate(halves, start=1):
                for size in (1, 2, 3, 4):
                    self.check_half_side(manner, how_many, size, whole * size // 4)

    def check_half_side(self, manner, how_many, size, half):
        m, n = told.middles(manner, how_many)[0]
        for p, held in ((m, True), (m + half - 1, True), (m + half, False)):
            for p, r in on_shield([(p, n)]):
                self.assertEqual(has(0, how_many, manner, size, p, r), held, (manner, how_many, size, p, r))

    def test_own_points_are_rounded_down_on_both_sides(self):
        # h is 96: 95 to dexter is 47 and a half of the charge's own, which rounds down to -48.
        self.assertTrue(has(0, 1, 3, 4, 240 - 94, 288))
        self.assertFalse(has(0, 1, 3, 4, 240 - 95, 288))
        self.assertTrue(has(0, 1, 3, 4, 240 + 95, 288))
        self.assertFalse(has(0, 1, 3, 4, 240 + 96, 288))
        self.assertTrue(has(0, 1, 3, 4, 240, 288 - 94))
        self.assertFalse(has(0, 1, 3, 4, 240, 288 - 95))

    def test_the_least_half_side(self):
        # 240 / 10 at size 1: 6, so a roundel has 11 points across.
        row = [has(0, 10, 1, 1, p, 288) for p in range(48)]
        self.assertEqual([p for p in range(48) if row[p]], list(range(19, 30)))

    def test_the_largest_charge_reaches_the_shield_s_edges(self):
        self.assertTrue(has(0, 1, 0, 4, 479, 288))
        self.assertTrue(has(0, 1, 0, 4, 5, 288))
        self.assertFalse(has(0, 1, 0, 4, 4, 288))
        for p, r in told.CORNERS:
            self.assertFalse(has(0, 1, 0, 4, p, r))

    def test_charges_cut_off_by_the_shield_s_edge(self):
        # In base h is 64, so 568 is as far down as a charge comes; in chief 80 - 72 as far up.
        self.assertTrue(has(6, 1, 6, 4, 240, 568))
        self.assertFalse(has(6, 1, 6, 4, 240, 570))
        self.assertTrue(has(6, 1, 5, 4, 240, 8))
        self.assertFalse(has(6, 1, 5, 4, 240, 7))

    def test_every_group(self):
        for manner in range(7):
            for how_many in range(1, 11):
                for size in (1, 2, 3, 4):
                    for charge in range(16):
                        self.check_group(charge, how_many, manner, size)

    def check_group(self, charge, how_many, manner, size):
        data = group_bytes(charge, how_many, manner, size)
        for p, r in self.points_of_group(charge, how_many, manner, size):
            held = told.group_has(charge, how_many, manner, size, p, r)
            self.assertEqual(at(p, r, data) == [2], held, (charge, how_many, manner, size, p, r))

    def points_of_group(self, charge, how_many, manner, size):
        half = told.half_side(manner, how_many, size)
        points = []
        for k, (m, n) in enumerate(told.middles(manner, how_many)):
            points.append((m, n))
            for step in (2, 5, 7, 10, 11):
                across = half * (step + k) // 12
                points += [(m + across, n - half // 3), (m - across, n + half // 5), (m - half // 7, n - across)]
        return on_shield(points)

    def test_every_manner_along_whole_rows(self):
        for manner in range(7):
            for how_many in range(1, 11):
                rows = sorted({n for m, n in told.middles(manner, how_many)})
                for charge in (6, 15):
                    data = group_bytes(charge, how_many, manner, 4)
                    for r in rows[:2]:
                        shown = [at(p, r + 9, data) == [2] for p in range(told.WIDTH)]
                        as_told = [told.group_has(charge, how_many, manner, 4, p, r + 9) for p in range(told.WIDTH)]
                        self.assertTrue(shown == as_told, (charge, how_many, manner, r))


if __name__ == "__main__":
    unittest.main()
