import unittest

import told
from shieldwords.desk import at

POINTS = told.walk((0, 48, 160, 229, 347, 431, 528, 575), (0, 36, 175, 239, 300, 432, 479))


class Ordinaries(unittest.TestCase):
    # By ordinary, straight: points that it has, points that it hasn't.
    SPOTS = (
        (((0, 0), (479, 159)), ((0, 160), (479, 575))),
        (((0, 432), (479, 575)), ((0, 431), (479, 0))),
        (((168, 0), (311, 575)), ((167, 0), (312, 575))),
        (((0, 204), (479, 371)), ((0, 203), (479, 372))),
        (((0, 0), (133, 0), (0, 159), (479, 415)), ((134, 0), (0, 160), (479, 414), (0, 575))),
        (((479, 0), (346, 0), (479, 159), (0, 415)), ((345, 0), (479, 160), (0, 414), (479, 575))),
        (((240, 168), (240, 311), (0, 408), (0, 551)), ((240, 167), (240, 312), (0, 407), (0, 552))),
        (((180, 0), (299, 575), (0, 228), (479, 347)), ((179, 0), (300, 575), (0, 227), (479, 348))),
        (((93, 0), (0, 111), (386, 0), (479, 111)), ((94, 0), (0, 112), (385, 0), (479, 112))),
        (((240, 0), (81, 0), (399, 0), (240, 575)), ((80, 0), (400, 0), (239, 575), (241, 575), (0, 575))),
        (((47, 300), (432, 300), (240, 47), (240, 528)), ((48, 300), (431, 300), (240, 48), (240, 527))),
        (((0, 0), (175, 207)), ((176, 207), (175, 208), (479, 575))),
        (((0, 0), (239, 287)), ((240, 287), (239, 288), (479, 575))),
    )

    def test_both_sides_of_an_edge(self):
        for ordinary, (inside, outside) in enumerate(self.SPOTS):
            data = [0, 1, 1, 0, ordinary, 0, 0, 0, 3]
            for p, r in inside:
                self.assertEqual(at(p, r, data), [3], (ordinary, p, r))
            for p, r in outside:
                self.assertEqual(at(p, r, data), [1], (ordinary, p, r))

    def test_every_ordinary_by_every_line(self):
        for ordinary in range(13):
            for line in range(6):
                data = told.arms_bytes((0, 0), [(0, ordinary, line, (0, 4))])
                shown = [at(p, r, data) for p, r in POINTS]
                as_told = [[4 if told.ordinary_has(ordinary, line, p, r) else 0] for p, r in POINTS]
                self.assertTrue(shown == as_told, (ordinary, line))

    def test_a_bordure_by_a_line(self):
        # Its dexter edge and its sinister one draw in and out together.
        data = [0, 1, 1, 0, 10, 2, 0, 0, 2]
        self.assertEqual([at(p, 300, data)[0] for p in (59, 60, 419, 420)], [2, 1, 1, 2])
        self.assertEqual([at(p, 330, data)[0] for p in (35, 36, 443, 444)], [2, 1, 1, 2])

    def test_corners(self):
        held = {corner: [] for corner in told.CORNERS}
        for ordinary in range(13):
            for p, r in told.CORNERS:
                if at(p, r, [0, 1, 1, 0, ordinary, 0, 0, 0, 2]) == [2]:
                    held[(p, r)].append(ordinary)
        self.assertEqual(held[(0, 0)], [0, 4, 8, 10, 11, 12])
        self.assertEqual(held[(479, 0)], [0, 5, 8, 10])
        self.assertEqual(held[(0, 575)], [1, 5, 8, 10])
        self.assertEqual(held[(479, 575)], [1, 4, 8, 10])


if __name__ == "__main__":
    unittest.main()
