import random
import unittest

import told
from shieldwords.desk import at, check, draw, drawing

HALF_ROWS = [15, 2, 15, 3]


def rows_of(data):
    """The rows of a drawing's bytes, each a list of its runs."""
    runs = list(zip(data[4::2], data[5::2]))
    rows, row = [], []
    for length, tincture in runs:
        row.append((length, tincture))
        if sum(each[0] for each in row) >= 30:
            rows.append(row)
            row = []
    return rows + [row] if row else rows


class Plain(unittest.TestCase):
    def test_one_run_in_each_row(self):
        for tincture in range(9):
            self.assertEqual(draw([0, tincture, 0]), [76, 0x53, 0x48, 0x44, 0x31] + [30, tincture] * 36)


class ByHand(unittest.TestCase):
    def test_per_pale(self):
        self.assertEqual(draw([1, 0, 0, 2, 3, 0]), [4 + 36 * 4] + told.HEAD + HALF_ROWS * 36)

    def test_per_fess(self):
        self.assertEqual(draw([1, 1, 0, 2, 3, 0]), [76] + told.HEAD + [30, 2] * 18 + [30, 3] * 18)

    def test_paly_cut_up_as_finely_as_can_be(self):
        # 24 pieces, each 20 across: of five points side by side, 16 from one another, two lie in one piece.
        row = told.row_bytes([(16 * x + 8) * 24 // 480 % 2 for x in range(30)])
        self.assertEqual(row, [1, 0, 1, 1, 2, 0, 1, 1] * 6)
        self.assertEqual(draw([2, 1, 24, 0, 0, 1, 0]), [4 + 36 * len(row)] + told.HEAD + row * 36)

    def test_a_chief_and_a_pale(self):
        # The chief ends above 160: its last row is the tenth, at 152. The pale runs from 168 to 311.
        arms = told.arms_bytes((0, 1), [(0, 0, 0, (0, 2)), (0, 2, 0, (0, 3))])
        rows = [10, 2, 9, 3, 11, 2] * 10 + [10, 1, 9, 3, 11, 1] * 26
        self.assertEqual(draw(arms), [4 + 36 * 6] + told.HEAD + rows)

    def test_a_layer_of_the_tincture_below_makes_no_run(self):
        arms = told.arms_bytes((0, 1), [(0, 2, 0, (0, 1)), (0, 7, 3, (0, 1))])
        self.assertEqual(draw(arms), [76] + told.HEAD + [30, 1] * 36)

    def test_counterchanged(self):
        arms = told.arms_bytes((1, 0, 0, 2, 3), [(0, 0, 0, None)])
        self.assertEqual(draw(arms), [148] + told.HEAD + [15, 3, 15, 2] * 10 + HALF_ROWS * 26)

    def test_a_roundel(self):
        # One small roundel in base: h is 16, its middle (240, 504), in one row with the points 8 off to both sides.
        arms = told.arms_bytes((0, 0), [(1, 0, 1, 6, 1, (0, 4))])
        rows = [30, 0] * 31 + [14, 0, 2, 4, 14, 0] + [30, 0] * 4
        self.assertEqual(draw(arms), [4 + 35 * 2 + 6] + told.HEAD + rows)


class AsToldAndAsAtAnswers(unittest.TestCase):
    def check_arms(self, field, layers=()):
        data = told.arms_bytes(field, layers)
        answer = draw(data)
        self.assertEqual(answer[0], len(answer) - 1, data)
        self.assertEqual(answer[1:5], [0x53, 0x48, 0x44, 0x31], data)
        self.assertTrue(answer[1:] == told.drawing_bytes(told.drawing_of(field, layers)), data)
        self.assertEqual(drawing(answer[1:]), [0], data)
        return data, answer

    def test_fields_of_every_way(self):
        for way in range(8):
            for line in range(6):
                self.check_arms((1, way, line, 7, 2))
        for way in range(7):
            for pieces in (2, 5, 24):
                for line in range(1 if way > 4 else 6):
                    self.check_arms((2, way, pieces, line, 0, 8))

    def test_every_ordinary_by_every_line(self):
        for ordinary in range(13):
            for line in range(6):
                self.check_arms((0, 1), [(0, ordinary, line, (0, 4))])

    def test_every_charge_and_manner(self):
        for charge in range(16):
            for manner in range(7):
                how_many = (charge + manner) % 10 + 1
                self.check_arms((0, 1), [(1, charge, how_many, manner, 4, (1, 6, 1, 2, 3))])

    def test_counterchanged_over_every_way(self):
        for field in [(1, way, 1, 0, 5) for way in range(8)] + [(2, way, 9, 0, 0, 5) for way in range(7)]:
            self.check_arms(field, [(0, 4, 2, (0, 8)), (1, 6, 10, 0, 4, None), (0, 10, 3, None)])

    def test_many_arms_row_by_row(self):
        choose = random.Random(36)
        for number in range(40):
            data, answer = self.check_arms(*told.random_arms(choose))
            rows = rows_of(answer[1:])
            self.assertEqual(len(rows), 36, data)
            for row in rows:
                self.assertEqual(sum(length for length, tincture in row), 30, data)
                for run, following in zip(row, row[1:]):
                    self.assertNotEqual(run[1], following[1], data)
            self.check_points(data, rows)

    def check_points(self, data, rows):
        for y, row in enumerate(rows):
            spread = [tincture for length, tincture in row for point in range(length)]
            shown = [at(16 * x + 8, 16 * y + 8, data)[0] for x in range(30)]
            self.assertEqual(spread, shown, (y, data))


class Refusals(unittest.TestCase):
    def test_arms_that_are_not_well_made(self):
        self.assertEqual(draw([]), [-1, 0])
        self.assertEqual(draw([0, 9, 0]), [-1, 1])
        self.assertEqual(draw([0, 8]), [-1, 2])
        self.assertEqual(draw([0, 8, 0, 0]), [-1, 3])
        self.assertEqual(draw([0, 1, 1, 0, 0, 0, 1]), [-1, 6])
        self.assertEqual(draw([0] * 300), [-1, 3])

    def test_the_same_place_as_check_tells(self):
        choose = random.Random(5)
        refused = 0
        for number in range(300):
            data = told.arms_bytes(*told.random_arms(choose))
            data[choose.randrange(len(data))] = choose.randrange(26)
            if check(data) != [0]:
                refused += 1
                self.assertEqual(draw(data), check(data), data)
        self.assertGreater(refused, 100)


class Calls(unittest.TestCase):
    HANDED = (
        [], [0, 9, 0], [0, 1, 0], [0] * 300,
        [1, 7, 5, 8, 0, 2, 0, 12, 4, 1, 1, 15, 10, 6, 4, 0, 2, 6, 24, 0, 3, 1],
    )

    def test_what_is_handed_in_stays_as_it_was(self):
        for data in self.HANDED:
            kept = list(data)
            draw(data)
            self.assertEqual(data, kept)

    def test_twice_the_same(self):
        once = [draw(data) for data in self.HANDED]
        for answer in once:
            self.assertEqual({type(number) for number in answer}, {int})
        self.assertEqual([draw(data) for data in reversed(self.HANDED)], once[::-1])
        draw([0, 4, 0]).append(9)
        self.assertEqual(len(draw([0, 4, 0])), 77)


if __name__ == "__main__":
    unittest.main()
