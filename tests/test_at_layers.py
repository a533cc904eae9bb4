import copy
import random
import unittest

import told
from shieldwords.desk import at, check

CHIEF_GULES = (0, 0, 0, (0, 2))
PALE_AZURE = (0, 2, 0, (0, 3))


class Layers(unittest.TestCase):
    def test_the_highest_layer_that_has_a_point(self):
        data = told.arms_bytes((0, 1), [CHIEF_GULES, PALE_AZURE])
        self.assertEqual([at(p, r, data)[0] for p, r in ((0, 0), (240, 0), (240, 300), (0, 300))], [2, 3, 3, 1])

    def test_the_other_order(self):
        data = told.arms_bytes((0, 1), [PALE_AZURE, CHIEF_GULES])
        self.assertEqual([at(p, r, data)[0] for p, r in ((0, 0), (240, 0), (240, 300), (0, 300))], [2, 2, 3, 1])

    def test_eight_layers(self):
        layers = [(0, 12, 0, (0, number)) for number in range(8)]
        data = told.arms_bytes((0, 8), layers)
        self.assertEqual(at(0, 0, data), [7])
        self.assertEqual(at(479, 575, data), [8])

    def test_a_fill_is_as_it_is_at_the_shield_s_point(self):
        # The pale runs from 168 to 311, and is parted at the shield's 240.
        data = told.arms_bytes((0, 1), [(0, 2, 0, (1, 0, 0, 2, 3))])
        self.assertEqual([at(p, 9, data)[0] for p in (167, 168, 239, 240, 311, 312)], [1, 2, 2, 3, 3, 1])
        # The sixth bar of the shield begins at 480, within the base.
        data = told.arms_bytes((0, 1), [(0, 1, 0, (2, 0, 6, 0, 4, 5))])
        self.assertEqual([at(9, r, data)[0] for r in (431, 432, 479, 480, 575)], [1, 4, 4, 5, 5])


class Counterchanged(unittest.TestCase):
    def test_over_a_parted_field(self):
        data = told.arms_bytes((1, 0, 0, 1, 2), [(0, 0, 0, None)])
        self.assertEqual([at(p, r, data)[0] for p, r in ((239, 0), (240, 0), (239, 160), (240, 160))], [2, 1, 1, 2])

    def test_over_a_varied_field(self):
        data = told.arms_bytes((2, 0, 6, 0, 1, 2), [(0, 2, 0, None)])
        self.assertEqual([at(p, r, data)[0] for p, r in ((0, 0), (240, 0), (0, 96), (240, 96))], [1, 2, 2, 1])

    def test_the_field_s_own_whatever_lies_between(self):
        between = [(0, 0, 0, (0, 7)), (0, 3, 0, (1, 1, 0, 5, 6)), (0, 2, 0, None)]
        data = told.arms_bytes((1, 0, 0, 1, 2), between + [(1, 0, 1, 0, 4, None)])
        self.assertEqual([at(p, r, data)[0] for p, r in ((239, 288), (240, 288), (239, 100), (240, 100))], [2, 1, 2, 1])
        # Beside the roundel the layers between are there.
        self.assertEqual([at(p, r, data)[0] for p, r in ((0, 0), (0, 250), (0, 300), (200, 0))], [7, 5, 6, 2])

    def test_twice_is_not_back_again(self):
        data = told.arms_bytes((1, 0, 0, 1, 2), [(0, 0, 0, None), (0, 0, 0, None)])
        self.assertEqual([at(p, 0, data)[0] for p in (239, 240)], [2, 1])

    def test_by_every_way_of_the_field(self):
        fields = [(1, way, 1, 0, 5) for way in range(8)] + [(2, way, 9, 0, 0, 5) for way in range(7)]
        for field in fields:
            layers = [(0, 4, 2, (0, 8)), (1, 6, 10, 0, 4, None), (0, 10, 3, None)]
            data = told.arms_bytes(field, layers)
            for p, r in told.walk((30, 90, 500), (200,)):
                self.assertEqual(at(p, r, data), [told.arms_tincture(field, layers, p, r)], (field, p, r))


class WholeArms(unittest.TestCase):
    def test_many_arms(self):
        choose = random.Random(20261)
        for number in range(300):
            field, layers = told.random_arms(choose)
            data = told.arms_bytes(field, layers)
            self.assertEqual(check(data), [0], data)
            points = [(choose.randrange(480), choose.randrange(576)) for point in range(60)]
            for p, r in points + list(told.CORNERS):
                self.assertEqual(at(p, r, data), [told.arms_tincture(field, layers, p, r)], (p, r, data))


class Refusals(unittest.TestCase):
    WELL = [1, 6, 0, 1, 2, 1, 0, 0, 0, 1]

    def test_no_such_point(self):
        far = 4294967295
        for p, r in ((480, 0), (0, 576), (480, 576), (479, 576), (480, 575), (far, 0), (0, far), (far, far)):
            self.assertEqual(at(p, r, self.WELL), [-2], (p, r))

    def test_the_last_points(self):
        self.assertEqual([at(p, r, self.WELL) for p, r in told.CORNERS], [[2], [1], [2], [1]])

    def test_p_is_across_and_r_is_down(self):
        self.assertEqual(at(479, 500, self.WELL), [1])
        self.assertEqual(at(500, 479, self.WELL), [-2])

    def test_arms_that_are_not_well_made_are_told_first(self):
        for p, r in ((0, 0), (479, 575), (480, 0), (0, 576), (4294967295, 4294967295)):
            self.assertEqual(at(p, r, []), [-1, 0])
            self.assertEqual(at(p, r, [0, 9, 0]), [-1, 1])
            self.assertEqual(at(p, r, [0, 8]), [-1, 2])
            self.assertEqual(at(p, r, self.WELL + [0]), [-1, 10])
            self.assertEqual(at(p, r, [0, 1, 1, 0, 0, 0, 1]), [-1, 6])


class Calls(unittest.TestCase):
    HANDED = (
        [],
        [0, 9, 0],
        [0, 1, 0],
        [1, 7, 5, 8, 0, 2, 0, 12, 4, 1, 1, 15, 10, 6, 4, 0, 2, 6, 24, 0, 3, 1],
        [1, 7, 5, 8, 0, 2, 0, 12, 4, 1, 1, 15, 10, 6, 4, 0, 2, 6, 24, 1, 3, 1],
        [0] * 300,
    )

    def test_what_is_handed_in_stays_as_it_was(self):
        for data in self.HANDED:
            kept = copy.copy(data)
            check(data)
            at(240, 504, data)
            at(480, 576, data)
            self.assertEqual(data, kept)

    def test_nothing_is_kept_from_call_to_call(self):
        calls = [lambda data=data: check(data) for data in self.HANDED]
        calls += [lambda data=data, p=p: at(p, 288, data) for data in self.HANDED for p in (0, 240, 480)]
        once = [call() for call in calls]
        self.assertEqual([call() for call in calls], once)
        self.assertEqual([call() for call in reversed(calls)], once[::-1])

    def test_an_answer_is_a_new_list(self):
        data = [0, 4, 0]
        at(0, 0, data).append(9)
        check(data).append(9)
        self.assertEqual(at(0, 0, data), [4])
        self.assertEqual(check(data), [0])

    def test_answers_are_lists_of_whole_numbers(self):
        for data in self.HANDED:
            for answer in (check(data), at(240, 504, data), at(480, 0, data)):
                self.assertIs(type(answer), list)
                self.assertEqual({type(number) for number in answer}, {int})


if __name__ == "__main__":
    unittest.main()
