import random
import unittest

import told
import told_judged
from shieldwords.desk import check, judge, print_of, read

# Ten small roundels in fess: they stand between the drawing's rows and have none of its points.
NO_POINT = "ten small roundels in fess"


def arms_of(words):
    """The arms' bytes that a blazon tells."""
    answer = read(list(words.encode()))
    assert answer[0] > 0, (words, answer)
    return answer[1:]


def layer_of(words):
    """A layer's bytes up to its fill, as a tuple."""
    return tuple(arms_of(f"ermine, {words} or")[3:-3])


class Judged(unittest.TestCase):
    def judged(self, answer, *blazons):
        for words in blazons:
            self.assertEqual(judge(arms_of(words)), answer, words)

    def many(self, words):
        return len(told_judged.held_points(layer_of(words)))


class NoFault(Judged):
    def test_fields_alone(self):
        self.judged([0], *told_fields())

    def test_layers(self):
        self.judged(
            [0],
            "azure, a chief or", "or, a bend gules", "argent, three mullets sable",
            "azure, a chief or, a mullet in base argent, three mullets in chief gules",
            "per pale or and azure, a roundel counterchanged",
            "barry of 6 argent and azure, a bend gules", "quarterly or and gules, a bordure azure",
            "or, a chief per pale gules and azure", "or, a chief barry of 4 gules and argent",
        )

    def test_eight_layers_that_are_good(self):
        words = (
            "or, a chief azure, a base vert, a pale gules, a roundel in chief argent, a roundel in base argent, "
            "a lesser lozenge in base sable, a mullet ermine, a small roundel azure"
        )
        self.assertEqual(told_judged.judged((0, 0), layers_of(words)), [0])
        self.judged([0], words)


def told_fields():
    return (
        "or", "gules", "vair", "per pale or and argent", "per fess gules and azure", "gyronny ermine and vair",
        "barry of 6 or and azure", "paly of 6 gules and argent", "chequy of 6 ermine and vair",
        "lozengy of 6 or and ermine", "bendy of 6 vair and sable", "quarterly sable and vert",
    )


def layers_of(words):
    """A blazon's layers with plain fills, in the form that `told` has."""
    field, *layers = words.split(", ")
    return [layer_of(words_of_shape(each)) + (plain_fill(each),) for each in layers]


def words_of_shape(layer):
    return layer.rsplit(" ", 1)[0]


def plain_fill(layer):
    return tuple(arms_of(layer.rsplit(" ", 1)[1])[:-1])


class Kind1(Judged):
    TINCTURES = "or argent gules azure sable vert purpure ermine vair".split()

    def test_every_pair_of_tinctures(self):
        for first in range(9):
            for second in range(9):
                if first == second:
                    continue
                agree = max(first, second) < 2 or 2 <= min(first, second) and max(first, second) < 7
                pair = f"{self.TINCTURES[first]} and {self.TINCTURES[second]}"
                self.judged([1, 0] if agree else [0], f"barry of 6 {pair}")
                self.judged([0], f"per pale {pair}")

    def test_every_way(self):
        for way in ("barry", "paly", "bendy", "bendy sinister", "chevronny", "chequy", "lozengy"):
            self.judged([1, 0], f"{way} of 6 or and argent", f"{way} of 2 gules and azure")
            self.judged([1, 1], f"vert, a chief {way} of 6 argent and or", f"ermine, a mullet {way} of 9 vert and sable")
            self.judged([0], f"{way} of 6 or and azure")

    def test_a_layer_s(self):
        self.judged([1, 1], "ermine, a chief barry of 4 or and argent", "or, two swords paly of 4 gules and vert")
        self.judged([1, 2], "azure, a chief or, a base barry of 4 or and argent")
        self.judged([0], "ermine, a chief per pale or and argent", "azure, a chief barry of 4 or and vert")

    def test_the_field_first_then_the_lowest_layer(self):
        self.judged([1, 0], "barry of 4 or and argent, a chief barry of 4 or and argent")
        self.judged([1, 2], "ermine, a chief or, a base barry of 4 or and argent, a pale paly of 4 or and argent")

    def test_counterchanged_has_none_of_its_own(self):
        self.judged([0], "barry of 4 or and gules, a chief counterchanged")
        self.judged([0], "per pale or and argent, a chief counterchanged")


class Kind2(Judged):
    def test_metal_on_metal_and_colour_on_colour(self):
        self.judged([2, 1], "argent, a chief or", "or, a chief argent", "azure, a chief gules", "sable, two swords vert",
                    "or, a chief or", "purpure, a chief vert")
        self.judged([0], "argent, a chief gules", "azure, a chief or", "vert, two swords argent")

    def test_furs_agree_with_nothing(self):
        self.judged([0], "ermine, a chief or", "vair, a chief gules", "or, a chief ermine", "gules, a chief vair",
                    "ermine, a chief vair", "vair, a chief ermine")
        self.judged([3, 1], "ermine, a chief ermine", "vair, a chief vair")

    def test_more_than_one_tincture_is_not_judged_so(self):
        self.judged([0], "azure, a chief per pale gules and vert", "azure, a chief per pale gules and or")
        self.judged([0], "per pale azure and gules, a chief counterchanged")

    def test_every_point_must_agree(self):
        self.judged([2, 1], "per pale gules and azure, a chief vert", "per pale or and argent, a chief or")
        self.judged([0], "per pale gules and argent, a chief vert", "barry of 6 or and azure, a chief vert")

    def test_one_point_that_does_not_agree(self):
        # Of five small increscents in pale or one point lies within the chief, and all else there is azure.
        below = layer_of("five small increscents in pale")
        self.assertEqual(len(told_judged.held_points(below) & told_judged.held_points(layer_of("a chief"))), 1)
        self.judged([0], "azure, five small increscents in pale or, a chief gules")
        self.judged([2, 2], "azure, five small increscents in pale per fess gules and argent, a chief vert")
        # Of fur too it does not agree.
        self.judged([0], "azure, five small increscents in pale ermine, a chief gules")

    def test_right_below_it(self):
        self.judged([0], "azure, a chief or, two swords in chief vert")
        self.judged([2, 2], "azure, a chief or, two swords in chief argent")
        # What lies above it makes no difference.
        self.judged([2, 1], "azure, a chief gules, two swords in chief or")

    def test_a_layer_that_has_no_point(self):
        self.assertEqual(self.many(NO_POINT), 0)
        self.judged([2, 1], f"azure, {NO_POINT} or", f"azure, {NO_POINT} gules", f"ermine, {NO_POINT} purpure")
        self.judged([2, 2], f"azure, a chief or, {NO_POINT} argent")
        self.judged([3, 1], f"azure, {NO_POINT} ermine", f"azure, {NO_POINT} vair",
                    f"azure, {NO_POINT} per pale or and argent", f"or, {NO_POINT} barry of 4 or and vert",
                    f"per pale or and azure, {NO_POINT} counterchanged")

    def test_the_lowest_layer(self):
        self.judged([2, 2], "azure, a chief or, a base gules, a pale sable")
        self.judged([2, 1], "azure, a chief vert, a base gules, a pale sable")


class Kind3(Judged):
    def test_3_and_4_points(self):
        rows = (
            ("seven small billets in bend", 3), ("seven small mascles in base", 3), ("a small roundel in fess", 4),
            ("a small roundel in base", 2), ("eight small roundels in bend", 4),
        )
        for words, many in rows:
            self.assertEqual(self.many(words), many, words)
            self.judged([0] if many > 3 else [3, 1], f"azure, {words} or", f"ermine, {words} vair")

    def test_points_that_differ_alone_count(self):
        # Half of the layer is as the field is.
        self.judged([0], "ermine, a chief per pale ermine and vair")
        self.judged([3, 1], "ermine, a small roundel in fess per pale ermine and vair")
        self.judged([0], "ermine, a small roundel in fess per pale gules and vair")

    def test_as_below_it(self):
        self.judged([3, 2], "azure, a chief ermine, two swords in chief ermine")
        self.judged([3, 2], "per pale or and azure, a chief counterchanged, a chief counterchanged")
        self.judged([3, 1], "per pale or and azure, a chief per pale or and azure")
        # Where it differs from the field but not from what lies between.
        self.judged([3, 2], "or, a quarter ermine, a canton ermine")
        self.judged([0], "or, a chief ermine, a canton ermine")

    def test_what_lies_above_makes_no_difference(self):
        self.judged([3, 1], "ermine, a chief ermine, a pale or")

    def test_the_lowest_layer(self):
        self.judged([3, 2], "or, a quarter vair, a canton vair, a small roundel in fess vair, a small roundel in fess vair")


class Kind4(Judged):
    def test_3_and_4_points(self):
        # By layers: how many points of the lower one the upper one leaves.
        rows = (
            ("seven arrows in bend sinister", "a base", 3), ("a great crosslet in fess", "a pale", 3),
            ("two small roundels in pale", "a chief", 4), ("two small annulets in bend", "a chief", 4),
        )
        for lower, upper, many in rows:
            left = told_judged.held_points(layer_of(lower)) - told_judged.held_points(layer_of(upper))
            self.assertEqual(len(left), many, (lower, upper))
            self.judged([0] if many > 3 else [4, 1], f"ermine, {lower} or, {upper} vair")

    def test_hidden_wholly(self):
        self.judged([4, 1], "or, a canton gules, a quarter ermine", "or, a chief gules, a chief ermine")
        self.judged([4, 2], "or, a base azure, a canton gules, a quarter ermine")

    def test_by_several_layers_together(self):
        # Each of two swords lies in another half; the quarter alone leaves one of them.
        self.judged([0], "or, two swords in chief gules, a quarter ermine")
        self.judged([4, 1], "or, two swords in chief gules, a quarter ermine, a chief vair")
        self.judged([4, 1], "or, two swords in chief gules, a bordure ermine, a quarter ermine, a chief embattled vair")

    def test_by_a_layer_of_the_same_tincture(self):
        # The quarter has the canton's points, so they are the quarter's, though they look as they did.
        self.judged([4, 1], "or, a canton gules, a quarter per fess gules and ermine")

    def test_points_that_differ_alone_count(self):
        # Half of the chief differs from the field: the quarter has that half's points, or the other's.
        self.judged([4, 1], "ermine, a chief per pale or and ermine, a quarter vair")
        self.judged([0], "ermine, a chief per pale ermine and or, a quarter vair")

    def test_the_highest_layer_is_never_hidden(self):
        self.judged([0], "ermine, a quarter or, a canton vair")

    def test_the_lowest_layer(self):
        self.judged([4, 1], "or, a canton gules, a quarter ermine, a roundel in base gules, a base ermine")


class Kind5(Judged):
    def test_layers_that_do_not_meet(self):
        self.judged([0], "azure, a chief or, a base argent", "azure, a chief or, two swords in base or",
                    "azure, a roundel in base or, a mullet in chief or")
        self.judged([5, 2], "azure, a base argent, a chief or", "azure, two swords in base or, a chief or",
                    "azure, a mullet in chief or, a roundel in base or")

    def test_layers_that_meet_in_one_tincture(self):
        self.judged([0], "azure, a chief or, a pale or")
        self.judged([5, 2], "azure, a pale or, a chief or")
        self.judged([0], "per fess or and azure, a chief counterchanged, a pale counterchanged")
        self.judged([5, 2], "per fess or and azure, a pale counterchanged, a chief counterchanged")

    def test_layers_that_may_not_change_places(self):
        self.judged([0], "azure, a chief or, a pale argent", "azure, a pale argent, a chief or",
                    "azure, a pale or, a chief argent", "azure, a chief argent, a pale or")

    def test_the_first_byte_that_differs(self):
        # Pairs that don't meet, the lesser one first: they differ in the layer's kind, the charge, how many or the
        # manner; behind the first byte that differs, what stands makes no difference.
        pairs = (
            ("a quarter or", "a roundel in base argent"), ("a roundel in chief or", "an annulet in base argent"),
            ("a roundel in chief or", "two roundels in base argent"),
            ("two roundels in chief or", "two roundels in base argent"),
            ("a roundel in chief vair", "a lozenge in base or"), ("two swords in base or", "three swords in chief or"),
            ("three towers in base vair", "a great wheel in chief or"),
        )
        for lesser, greater in pairs:
            self.judged([0], f"azure, {lesser}, {greater}")
            self.judged([5, 2], f"azure, {greater}, {lesser}")

    def test_shapes_that_are_the_same_but_for_the_line_or_the_fill(self):
        # They meet, in tinctures that are the same where they do.
        self.judged([0], "azure, a chief or, a chief embattled or")
        self.judged([5, 2], "azure, a chief indented or, a chief embattled or")
        self.judged([0], "azure, a chief embattled or, a chief indented or")

    def test_the_upper_one_and_the_lowest_such(self):
        self.judged([5, 3], "azure, a chief or, a roundel in base or, a fess argent")
        self.judged([5, 2], "azure, a roundel in base or, a fess argent, a chief or")
        self.judged([5, 4], "azure, a chief or, a fess argent, a roundel in base or, a canton vair")

    def test_the_drawing_up_to_them(self):
        # Where the pale and the chief meet, the pile hides both in the whole; but up to them the drawing changes.
        meeting = told_judged.held_points(layer_of("a pale")) & told_judged.held_points(layer_of("a chief"))
        self.assertLess(meeting, told_judged.held_points(layer_of("a pile")))
        self.judged([0], "azure, a pale argent, a chief or, a pile vair")
        self.judged([5, 2], "azure, a pale or, a chief or, a pile vair")

    def test_layers_that_are_not_side_by_side(self):
        # The base and the chief could change places, but each meets the pale between them.
        self.judged([0], "azure, a base argent, a pale or, a chief ermine")


class Order(Judged):
    def test_a_lesser_kind_in_a_higher_layer_goes_first(self):
        self.judged([1, 2], "azure, a chief gules, a base barry of 4 or and argent")
        self.judged([1, 2], "ermine, a chief ermine, a base barry of 4 or and argent")
        self.judged([1, 3], "or, a canton gules, a quarter ermine, a base barry of 4 or and argent")
        self.judged([2, 2], f"ermine, a chief ermine, {NO_POINT} or")
        self.judged([2, 3], "or, a canton gules, a quarter ermine, a base argent")
        self.judged([3, 3], "or, a canton gules, a quarter ermine, a canton ermine")

    def test_1_to_4_of_every_layer_before_5(self):
        self.judged([5, 2], "azure, a base argent, a chief or")
        self.judged([1, 3], "azure, a base argent, a chief or, a pale barry of 4 or and argent")
        self.judged([2, 3], "azure, a base argent, a chief or, a fess gules")
        self.judged([3, 3], f"azure, a base argent, a chief or, {NO_POINT} ermine")
        self.judged([4, 2], "azure, a base argent, a chief or, a chief ermine")
        self.judged([4, 3], "azure, a base argent, a chief or, a canton gules, a quarter ermine")


class AsTold(unittest.TestCase):
    SHAPES = (
        [(0, ordinary, line) for ordinary in range(13) for line in (0, 3)]
        + [(1, 0, 1, manner, size) for manner in (0, 1, 2, 5, 6) for size in (1, 4)]
        + [(1, 6, 3, 0, 3), (1, 4, 7, 3, 1), (1, 5, 7, 6, 1), (1, 0, 10, 1, 1), (1, 15, 7, 4, 3), (1, 9, 1, 1, 4),
           (1, 8, 5, 2, 1), (1, 13, 2, 5, 2), (1, 3, 4, 0, 2), (1, 0, 2, 2, 1), (1, 1, 2, 3, 1), (1, 4, 5, 0, 1)]
    )
    FIELDS = ((0, 0), (0, 3), (0, 7), (1, 0, 0, 0, 3), (1, 6, 1, 2, 1), (2, 0, 6, 0, 1, 4), (2, 5, 8, 0, 0, 1))
    FILLS = tuple((0, tincture) for tincture in range(9)) + (
        (1, 0, 0, 7, 0), (1, 1, 0, 2, 3), (2, 1, 6, 0, 0, 5), (2, 0, 4, 0, 2, 3),
    )

    def chosen_arms(self, choose):
        field = choose.choice(self.FIELDS[:6] if choose.random() < 0.98 else self.FIELDS)
        fills = self.FILLS[:12] if choose.random() < 0.9 else self.FILLS
        fills += (None, None) if field[0] else ()
        shapes = [choose.choice(self.SHAPES) for layer in range(choose.choice((0, 1, 2, 2, 2, 3, 3, 4, 5, 8)))]
        return field, [shape + (choose.choice(fills),) for shape in shapes]

    def test_many_arms(self):
        choose = random.Random(9)
        found = {}
        for number in range(900):
            field, layers = self.chosen_arms(choose)
            data = told.arms_bytes(field, layers)
            answer = judge(data)
            self.assertEqual(answer, told_judged.judged(field, layers), bytes(print_of(data)[1:]))
            found[answer[0]] = found.get(answer[0], 0) + 1
        self.assertEqual(sorted(found), [0, 1, 2, 3, 4, 5])
        self.assertGreater(min(found.values()), 10, found)

    def test_any_arms(self):
        choose = random.Random(90)
        for number in range(25):
            field, layers = told.random_arms(choose)
            data = told.arms_bytes(field, layers)
            self.assertEqual(judge(data), told_judged.judged(field, layers), data)

    def test_arms_judged_good_show_all_that_is_told(self):
        choose = random.Random(91)
        good = 0
        while good < 20:
            field, layers = self.chosen_arms(choose)
            if judge(told.arms_bytes(field, layers)) == [0] and layers:
                good += 1
                for k in range(len(layers)):
                    without = layers[:k] + layers[k + 1:]
                    self.assertNotEqual(told_judged.drawn(field, without), told_judged.drawn(field, layers))


class Refusals(unittest.TestCase):
    def test_arms_that_are_not_well_made(self):
        self.assertEqual(judge([]), [-1, 0])
        self.assertEqual(judge([0, 9, 0]), [-1, 1])
        self.assertEqual(judge([0, 8]), [-1, 2])
        self.assertEqual(judge([0, 8, 0, 0]), [-1, 3])
        self.assertEqual(judge([0, 1, 1, 0, 0, 0, 1]), [-1, 6])
        # A fault of the arms does not go before one of the bytes.
        self.assertEqual(judge([2, 0, 6, 0, 0, 1, 1]), [-1, 7])
        self.assertEqual(judge([0] * 300), [-1, 3])

    def test_the_same_place_as_check_tells(self):
        choose = random.Random(92)
        for number in range(300):
            data = told.arms_bytes(*told.random_arms(choose))
            data[choose.randrange(len(data))] = choose.randrange(26)
            if check(data) != [0]:
                self.assertEqual(judge(data), check(data), data)


class Calls(unittest.TestCase):
    HANDED = (
        [], [0, 9, 0], [0, 1, 0], [0] * 300, [2, 0, 6, 0, 0, 1, 0], [0, 0, 1, 0, 0, 0, 0, 0, 1],
        [1, 7, 5, 8, 0, 2, 0, 12, 4, 1, 1, 15, 10, 6, 4, 0, 2, 6, 24, 0, 3, 1],
    )

    def test_what_is_handed_in_stays_as_it_was(self):
        for data in self.HANDED:
            kept = list(data)
            judge(data)
            self.assertEqual(data, kept)

    def test_twice_the_same(self):
        once = [judge(data) for data in self.HANDED]
        for answer in once:
            self.assertIs(type(answer), list)
            self.assertEqual({type(number) for number in answer}, {int})
        self.assertEqual([judge(data) for data in reversed(self.HANDED)], once[::-1])
        judge([2, 0, 6, 0, 0, 1, 0]).append(9)
        self.assertEqual(judge([2, 0, 6, 0, 0, 1, 0]), [1, 0])


if __name__ == "__main__":
    unittest.main()
