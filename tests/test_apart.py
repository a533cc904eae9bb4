import random
import unittest

import told
from shieldwords.desk import apart, draw, like

PLAIN = [[4] * 30 for row in range(36)]
FAR = 4294967295

# Of the points (x, y) of a drawing those with 16 y + 8 >= 96 that haven't both 16 x + 8 < 160 and 16 y + 8 < 288.
OPEN = [(x, y) for y in range(6, 36) for x in range(30) if x >= 10 or y >= 18]
NOT_OPEN = [(x, y) for y in range(36) for x in range(30) if (x, y) not in OPEN]

NONE = (([], 0), (told.HEAD, 4), (told.HEAD + [31], 4), (told.HEAD + [30, 9], 5), (told.HEAD + [30, 4] * 37, 76))


def changed(points, tincture=5):
    """The plain drawing's bytes with another tincture at these points (x, y)."""
    rows = [list(row) for row in PLAIN]
    for x, y in points:
        rows[y][x] = tincture
    return told.drawing_bytes(rows)


def as_told(rows, others):
    everywhere, at_open = 0, 0
    for y in range(36):
        for x in range(30):
            if rows[y][x] != others[y][x]:
                p, r = 16 * x + 8, 16 * y + 8
                everywhere += 1
                at_open += r >= 96 and not (p < 160 and r < 288)
    return everywhere, at_open


def chosen_drawings(choose):
    """A drawing and another that differs from it at few points, at some or at most."""
    rows = told.random_drawing(choose)
    share = choose.choice((0, 0.02, 0.1, 0.5, 1))
    return rows, [[choose.randrange(9) if choose.random() < share else each for each in row] for row in rows]


class Apart(unittest.TestCase):
    def test_equal_drawings(self):
        for data in (changed([]), changed(OPEN), told.drawing_bytes(told.random_drawing(random.Random(1)))):
            self.assertEqual(apart(0, data, list(data)), [0])
            self.assertEqual(apart(1, data, data), [0])

    def test_one_point(self):
        for y in range(36):
            for x in range(30):
                data = changed([(x, y)])
                self.assertEqual(apart(0, changed([]), data), [1], (x, y))
                self.assertEqual(apart(1, changed([]), data), [1 if (x, y) in OPEN else 0], (x, y))

    def test_all_points(self):
        plain, other = told.HEAD + [30, 0] * 36, told.HEAD + [30, 8] * 36
        self.assertEqual(apart(0, plain, other), [1080])
        self.assertEqual(apart(1, plain, other), [780])

    def test_each_edge_of_the_open_points(self):
        # Points (p, r), and whether they are open.
        rows = (
            (200, 88, 0), (200, 104, 1), (8, 88, 0), (8, 104, 0), (472, 88, 0), (472, 104, 1),
            (152, 104, 0), (168, 104, 1), (152, 280, 0), (168, 280, 1), (152, 296, 1), (168, 296, 1),
            (8, 280, 0), (8, 296, 1), (152, 88, 0), (168, 88, 0), (8, 568, 1), (472, 568, 1), (8, 8, 0), (472, 8, 0),
        )
        for p, r, number in rows:
            data = changed([(p // 16, r // 16)])
            self.assertEqual(apart(1, changed([]), data), [number], (p, r))
            self.assertEqual(apart(1, data, changed([])), [number], (p, r))
            self.assertEqual(apart(0, data, changed([])), [1], (p, r))

    def test_how_the_runs_are_cut_makes_no_difference(self):
        halves = told.HEAD + [15, 1, 15, 2] * 36
        self.assertEqual(apart(0, halves, told.HEAD + [30, 1] * 36), [540])
        self.assertEqual(apart(0, halves, told.HEAD + [15, 2, 15, 1] * 36), [1080])
        self.assertEqual(apart(0, halves, told.HEAD + [14, 1, 16, 2] * 36), [36])

    def test_arms_drawn(self):
        # A chief has the rows down to 152, of which those from 104 on have 20 open points each.
        plain, chief = draw([0, 1, 0])[1:], draw([0, 1, 1, 0, 0, 0, 0, 0, 2])[1:]
        self.assertEqual(apart(0, plain, chief), [300])
        self.assertEqual(apart(1, plain, chief), [80])

    def test_many_drawings_both_ways_round(self):
        choose = random.Random(68)
        for number in range(150):
            rows, others = chosen_drawings(choose)
            data, other = told.drawing_bytes(rows), told.drawing_bytes(others)
            everywhere, at_open = as_told(rows, others)
            self.assertEqual([apart(0, data, other), apart(0, other, data)], [[everywhere]] * 2)
            self.assertEqual([apart(1, data, other), apart(1, other, data)], [[at_open]] * 2)

    def test_a_distance(self):
        choose = random.Random(69)
        for number in range(30):
            drawn = [told.drawing_bytes(chosen_drawings(choose)[1]) for drawing in range(3)]
            for o in (0, 1):
                first, second, third = drawn
                around = apart(o, first, second)[0] + apart(o, second, third)[0]
                self.assertLessEqual(apart(o, first, third)[0], around)
            self.assertEqual(apart(0, first, second) == [0], first == second)


class Like(unittest.TestCase):
    def test_67_and_68_open_points(self):
        choose = random.Random(70)
        for points in (OPEN, OPEN[::-1], choose.sample(OPEN, 780)):
            for many, answer in ((0, 1), (1, 1), (67, 1), (68, 0), (69, 0), (780, 0)):
                self.assertEqual(like(changed([]), changed(points[:many])), [answer], many)
                self.assertEqual(like(changed(points[:many]), changed([])), [answer], many)

    def test_points_that_are_not_open(self):
        self.assertEqual(len(NOT_OPEN), 300)
        self.assertEqual(apart(0, changed([]), changed(NOT_OPEN)), [300])
        self.assertEqual(like(changed([]), changed(NOT_OPEN)), [1])
        self.assertEqual(like(changed([]), changed(NOT_OPEN + OPEN[:67])), [1])
        self.assertEqual(like(changed([]), changed(NOT_OPEN + OPEN[:68])), [0])

    def test_equal_drawings(self):
        self.assertEqual(like(changed([]), changed([])), [1])

    def test_as_apart_tells(self):
        choose = random.Random(71)
        answers = []
        for number in range(100):
            rows, others = chosen_drawings(choose)
            answers.append(like(told.drawing_bytes(rows), told.drawing_bytes(others)))
            self.assertEqual(answers[-1], [1 if as_told(rows, others)[1] < 68 else 0])
        self.assertIn([0], answers)
        self.assertIn([1], answers)


class Refusals(unittest.TestCase):
    WELL = changed(OPEN[:9])

    def test_o_above_1(self):
        for o in (2, 3, 255, FAR):
            self.assertEqual(apart(o, self.WELL, self.WELL), [-2])

    def test_the_first_is_no_drawing(self):
        for data, place in NONE:
            for other in [self.WELL] + [each for each, place_of_other in NONE]:
                for o in (0, 1, 2, FAR):
                    self.assertEqual(apart(o, data, other), [-1, place])
                self.assertEqual(like(data, other), [-1, place])

    def test_the_second_alone_is_none(self):
        for data, place in NONE:
            for o in (0, 1, 2, FAR):
                self.assertEqual(apart(o, self.WELL, data), [-3, place])
            self.assertEqual(like(self.WELL, data), [-3, place])

    def test_2500_bytes(self):
        long = self.WELL + [0] * (2500 - len(self.WELL))
        self.assertEqual(apart(0, long, self.WELL), [-1, len(self.WELL)])
        self.assertEqual(apart(0, self.WELL, long), [-3, len(self.WELL)])
        self.assertEqual(like(self.WELL, long), [-3, len(self.WELL)])


class Calls(unittest.TestCase):
    HANDED = (changed([]), changed(OPEN), changed(NOT_OPEN), [], told.HEAD + [30], [0] * 2500)

    def calls(self):
        answers = []
        for data in self.HANDED:
            for other in self.HANDED:
                answers += [apart(o, data, other) for o in (0, 1, 2)] + [like(data, other)]
        return answers

    def test_what_is_handed_in_stays_as_it_was(self):
        kept = [list(data) for data in self.HANDED]
        self.calls()
        self.assertEqual(list(self.HANDED), kept)

    def test_twice_the_same(self):
        once = self.calls()
        self.assertEqual(self.calls(), once)
        for answer in once:
            self.assertIs(type(answer), list)
            self.assertEqual({type(number) for number in answer}, {int})


if __name__ == "__main__":
    unittest.main()
