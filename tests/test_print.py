import random
import unittest

import told
import told_words
from shieldwords.desk import check, print_of, read


def printed(data):
    """The blazon as a text; the number ahead must be how many bytes it has."""
    answer = print_of(data)
    assert answer[0] == len(answer) - 1, answer
    return bytes(answer[1:]).decode()


class ByHand(unittest.TestCase):
    def test_the_number_of_bytes_then_the_blazon(self):
        self.assertEqual(print_of([0, 0, 0]), [2, 111, 114])
        self.assertEqual(print_of([0, 3, 1, 0, 0, 0, 0, 0, 0]), [17] + list(b"azure, a chief or"))

    def test_blazons(self):
        rows = (
            ([0, 8, 0], "vair"),
            ([1, 0, 0, 0, 1, 0], "per pale or and argent"),
            ([1, 3, 1, 2, 3, 0], "per bend sinister wavy gules and azure"),
            ([1, 6, 2, 4, 5, 0], "quarterly embattled sable and vert"),
            ([1, 7, 0, 7, 8, 0], "gyronny ermine and vair"),
            ([2, 0, 2, 3, 6, 0, 0], "barry of 2 indented purpure and or"),
            ([2, 3, 24, 0, 6, 0, 0], "bendy sinister of 24 purpure and or"),
            ([2, 5, 10, 0, 6, 0, 0], "chequy of 10 purpure and or"),
            ([0, 1, 1, 0, 5, 5, 0, 0, 2], "argent, a bend sinister invected gules"),
            ([0, 1, 1, 1, 0, 1, 0, 3, 0, 0, 2], "argent, a roundel gules"),
            ([0, 1, 1, 1, 1, 1, 0, 3, 0, 0, 2], "argent, an annulet gules"),
            ([0, 1, 1, 1, 1, 1, 5, 1, 0, 0, 2], "argent, a small annulet in chief gules"),
            ([0, 1, 1, 1, 15, 10, 4, 4, 0, 0, 2], "argent, ten great arrows in bend sinister gules"),
            ([0, 1, 1, 1, 9, 2, 6, 2, 0, 0, 2], "argent, two lesser crosslets in base gules"),
            ([0, 1, 1, 1, 10, 1, 0, 3, 0, 0, 2], "argent, a saltorel gules"),
            ([0, 1, 1, 0, 7, 0, 0, 0, 2], "argent, a cross gules"),
            ([0, 1, 1, 0, 8, 0, 0, 0, 2], "argent, a saltire gules"),
            ([1, 1, 0, 0, 3, 2, 0, 10, 4, 1, 1, 6, 3, 0, 3, 1],
             "per fess or and azure, a bordure engrailed counterchanged, three mullets counterchanged"),
            ([0, 0, 1, 0, 2, 1, 0, 1, 2, 1, 1, 2], "or, a pale wavy per bend wavy argent and gules"),
        )
        for data, words in rows:
            self.assertEqual(printed(data), words)
            self.assertEqual(read(list(words.encode())), [len(data)] + data)


class EveryKind(unittest.TestCase):
    def check_arms(self, field, layers=()):
        data = told.arms_bytes(field, layers)
        answer = print_of(data)
        self.assertEqual(answer[0], len(answer) - 1, data)
        self.assertEqual(bytes(answer[1:]).decode(), told_words.blazon(field, layers))
        self.assertEqual(read(answer[1:]), [len(data)] + data)

    def test_fields(self):
        for tincture in range(9):
            self.check_arms((0, tincture))
        for way in range(8):
            for line in range(6):
                self.check_arms((1, way, line, 7, 2))
        for way in range(7):
            for pieces in range(2, 25):
                for line in range(1 if way > 4 else 6):
                    self.check_arms((2, way, pieces, line, 0, 8))
        for first in range(9):
            for second in range(9):
                if first != second:
                    self.check_arms((1, 0, 0, first, second))
                    self.check_arms((0, 0), [(0, 0, 0, (2, 0, 6, 0, first, second))])

    def test_ordinaries(self):
        for ordinary in range(13):
            for line in range(6):
                for fill in ((0, 4), (1, 3, line, 2, 3), (2, 3, 6, line, 2, 3), None):
                    self.check_arms((1, 0, 0, 0, 1), [(0, ordinary, line, fill)])

    def test_groups(self):
        for charge in range(16):
            for how_many in range(1, 11):
                for manner in range(7):
                    for size in range(1, 5):
                        fill = (None, (0, 5), (1, 4, 0, 7, 0))[(charge + manner) % 3]
                        self.check_arms((2, 1, 7, 0, 1, 2), [(1, charge, how_many, manner, size, fill)])

    def test_every_number_of_layers(self):
        layers = [(0, 0, 0, (0, 2)), (1, 11, 1, 0, 3, (0, 3))] * 4
        for many in range(9):
            self.check_arms((0, 1), layers[:many])

    def test_many_arms(self):
        choose = random.Random(8)
        for number in range(1500):
            self.check_arms(*told.random_arms(choose))


class Refusals(unittest.TestCase):
    def test_arms_that_are_not_well_made(self):
        self.assertEqual(print_of([]), [-1, 0])
        self.assertEqual(print_of([0, 9, 0]), [-1, 1])
        self.assertEqual(print_of([0, 8]), [-1, 2])
        self.assertEqual(print_of([0, 8, 0, 0]), [-1, 3])
        self.assertEqual(print_of([0, 1, 1, 0, 0, 0, 1]), [-1, 6])
        self.assertEqual(print_of([2, 5, 6, 1, 0, 1, 0]), [-1, 3])
        self.assertEqual(print_of([0] * 300), [-1, 3])

    def test_the_same_place_as_check_tells(self):
        choose = random.Random(9)
        for number in range(500):
            data = told.arms_bytes(*told.random_arms(choose))
            data[choose.randrange(len(data))] = choose.randrange(26)
            if check(data) != [0]:
                self.assertEqual(print_of(data), check(data), data)


class Calls(unittest.TestCase):
    HANDED = (
        [], [0, 9, 0], [0, 1, 0], [0] * 300,
        [1, 7, 5, 8, 0, 2, 0, 12, 4, 1, 1, 15, 10, 6, 4, 0, 2, 6, 24, 0, 3, 1],
    )

    def test_what_is_handed_in_stays_as_it_was(self):
        for data in self.HANDED:
            kept = list(data)
            print_of(data)
            self.assertEqual(data, kept)

    def test_twice_the_same(self):
        once = [print_of(data) for data in self.HANDED]
        for answer in once:
            self.assertEqual({type(number) for number in answer}, {int})
        self.assertEqual([print_of(data) for data in reversed(self.HANDED)], once[::-1])


if __name__ == "__main__":
    unittest.main()
