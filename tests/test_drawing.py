import random
import unittest

import told
from shieldwords.desk import draw, drawing

PLAIN = told.HEAD + [30, 4] * 36
# The longest bytes there are: 36 rows of 30 runs.
LONGEST = told.HEAD + [1, 0, 1, 8] * 15 * 36


def bytes_that_can_stand():
    for byte in told.HEAD:
        yield [byte]
    for row in range(36):
        left, before = 30, None
        while left:
            left -= yield range(1, left + 1)
            before = yield [tincture for tincture in range(9) if tincture != before]


def as_told(data):
    return told.answer_by(bytes_that_can_stand(), data)


class Drawings(unittest.TestCase):
    def test_what_draw_gives(self):
        choose = random.Random(40)
        for number in range(60):
            data = told.arms_bytes(*told.random_arms(choose))
            self.assertEqual(drawing(draw(data)[1:]), [0], data)

    def test_any_drawing(self):
        choose = random.Random(41)
        for number in range(200):
            data = told.drawing_bytes(told.random_drawing(choose))
            self.assertEqual(drawing(data), [0], data)

    def test_the_longest(self):
        self.assertEqual(len(LONGEST), 2164)
        self.assertEqual(drawing(LONGEST), [0])

    def test_the_same_tincture_at_the_next_row_s_beginning_is_no_fault(self):
        self.assertEqual(drawing(PLAIN), [0])
        self.assertEqual(drawing(told.HEAD + [10, 1, 20, 2, 20, 2, 10, 1] * 18), [0])

    def test_the_same_tincture_again_farther_on_is_no_fault(self):
        self.assertEqual(drawing(told.HEAD + [1, 7, 28, 0, 1, 7] * 36), [0])


class Ahead(unittest.TestCase):
    def test_nothing(self):
        self.assertEqual(drawing([]), [-1, 0])

    def test_each_byte_wrong_or_wanting(self):
        for place in range(4):
            self.assertEqual(drawing(PLAIN[:place]), [-1, place])
            for byte in range(256):
                changed = PLAIN[:place] + [byte] + PLAIN[place + 1:]
                self.assertEqual(drawing(changed), [0] if byte == PLAIN[place] else [-1, place])

    def test_rows_without_it(self):
        self.assertEqual(drawing(PLAIN[4:]), [-1, 0])


class Runs(unittest.TestCase):
    def faults(self, rows):
        for data, place in rows:
            self.assertEqual(drawing(told.HEAD + data), [-1, place], data[:20])

    def test_lengths(self):
        self.faults((
            ([0, 4] + [30, 4] * 36, 4), ([31, 4] + [30, 4] * 35, 4), ([255, 4], 4),
            ([30, 4, 0, 4], 6), ([30, 4, 31, 4], 6),
        ))

    def test_longer_than_what_the_row_still_wants(self):
        self.faults((
            ([29, 4, 2, 5], 6), ([29, 4, 30, 5], 6), ([10, 1, 10, 2, 11, 3], 8), ([10, 1, 10, 2, 0, 3], 8),
            ([1, 1, 30, 2], 6), ([15, 1, 15, 2, 1, 2, 30, 1], 10),
        ))
        self.assertEqual(drawing(told.HEAD + [29, 4, 1, 5] * 36), [0])

    def test_a_length_without_its_tincture(self):
        self.faults((([30], 5), ([30, 4, 30], 7), ([30, 4] * 35 + [30], 75), ([10, 1, 20], 7)))

    def test_a_tincture_that_is_none(self):
        for tincture in (9, 10, 30, 255):
            self.faults((([30, tincture] + [30, 4] * 35, 5), ([30, 4] * 35 + [10, 1, 20, tincture], 77)))

    def test_the_tincture_of_the_run_before_it(self):
        for tincture in range(9):
            self.faults((([10, tincture, 20, tincture] + [30, 4] * 35, 7),))
        self.faults((([10, 1, 10, 2, 10, 2] + [30, 4] * 35, 9), ([30, 4] * 35 + [29, 0, 1, 0], 77)))

    def test_the_length_is_told_before_the_tincture(self):
        self.faults((([31, 9], 4), ([10, 1, 21, 1], 6), ([10, 1, 20, 1, 31, 9], 7)))


class Ends(unittest.TestCase):
    def test_more_are_wanted(self):
        for data in (PLAIN, LONGEST, told.HEAD + [10, 1, 20, 2] * 36):
            for length in range(0, len(data), 1 if len(data) < 200 else 37):
                self.assertEqual(drawing(data[:length]), [-1, length])
            self.assertEqual(drawing(data[:-1]), [-1, len(data) - 1])

    def test_a_row_wanting(self):
        self.assertEqual(drawing(told.HEAD), [-1, 4])
        self.assertEqual(drawing(told.HEAD + [30, 4] * 35), [-1, 74])
        self.assertEqual(drawing(told.HEAD + [30, 4] * 20), [-1, 44])

    def test_bytes_behind_the_last_row(self):
        for data in (PLAIN, LONGEST):
            for byte in (0, 1, 30, 255):
                self.assertEqual(drawing(data + [byte]), [-1, len(data)])
            self.assertEqual(drawing(data + [30, 4]), [-1, len(data)])

    def test_2500_bytes(self):
        self.assertEqual(drawing(PLAIN + [0] * (2500 - 76)), [-1, 76])
        self.assertEqual(drawing(LONGEST + [1, 2] * 168), [-1, 2164])
        self.assertEqual(drawing([0] * 2500), [-1, 0])
        self.assertEqual(drawing(told.HEAD + [30, 4] * 1248), [-1, 76])
        self.assertEqual(drawing(told.HEAD + [1] * 2496), [-1, 7])


class EveryByte(unittest.TestCase):
    def test_every_byte_at_every_place(self):
        for rows in ([30, 4] * 36, [10, 1, 20, 2, 1, 0, 28, 3, 1, 0] + [30, 8] * 34):
            data = told.HEAD + rows
            for place in range(len(data) + 1):
                for byte in range(256):
                    changed = data[:place] + [byte] + data[place + 1:]
                    self.assertEqual(drawing(changed), as_told(changed), changed)

    def test_many_drawings_with_one_byte_changed(self):
        choose = random.Random(42)
        for number in range(600):
            data = told.drawing_bytes(told.random_drawing(choose))
            data[choose.randrange(len(data))] = choose.randrange(32)
            self.assertEqual(drawing(data), as_told(data), data)

    def test_many_drawings_with_one_byte_too_few_or_too_many(self):
        choose = random.Random(43)
        for number in range(300):
            data = told.drawing_bytes(told.random_drawing(choose))
            place = choose.randrange(len(data))
            fewer = data[:place] + data[place + 1:]
            more = data[:place] + [choose.randrange(9)] + data[place:]
            self.assertEqual(drawing(fewer), as_told(fewer), fewer)
            self.assertEqual(drawing(more), as_told(more), more)


class Calls(unittest.TestCase):
    HANDED = ([], PLAIN, LONGEST, PLAIN + [0], [0] * 2500, told.HEAD)

    def test_what_is_handed_in_stays_as_it_was(self):
        for data in self.HANDED:
            kept = list(data)
            drawing(data)
            self.assertEqual(data, kept)

    def test_twice_the_same(self):
        once = [drawing(data) for data in self.HANDED]
        for answer in once:
            self.assertEqual({type(number) for number in answer}, {int})
        self.assertEqual([drawing(data) for data in reversed(self.HANDED)], once[::-1])


if __name__ == "__main__":
    unittest.main()
