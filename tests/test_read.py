import random
import unittest

import told
import told_words
from shieldwords.desk import check, print_of, read

EIGHT = ", a chief or" * 8


def read_text(text):
    return read(list(text.encode("latin-1")))


def signs(texts):
    return list("".join(texts).encode("latin-1"))


class Words(unittest.TestCase):
    def reads(self, text, data):
        self.assertEqual(read_text(text), [len(data)] + data, text)

    def test_tinctures(self):
        for number, word in enumerate(told_words.TINCTURES):
            self.reads(word, [0, number, 0])

    def test_parted(self):
        for way, words in enumerate(told_words.PARTED):
            self.reads(f"{words} vair and or", [1, way, 0, 8, 0, 0])
            for line, word in enumerate(told_words.LINES[1:], start=1):
                self.reads(f"{words} {word} vair and or", [1, way, line, 8, 0, 0])

    def test_varied(self):
        for way, words in enumerate(told_words.VARIED):
            for pieces in range(2, 25):
                self.reads(f"{words} of {pieces} argent and gules", [2, way, pieces, 0, 1, 2, 0])
            for line, word in enumerate(told_words.LINES[1:] if way < 5 else [], start=1):
                self.reads(f"{words} of 9 {word} argent and gules", [2, way, 9, line, 1, 2, 0])

    def test_ordinaries(self):
        for number, words in enumerate(told_words.ORDINARIES):
            self.reads(f"or, a {words} gules", [0, 0, 1, 0, number, 0, 0, 0, 2])
            for line, word in enumerate(told_words.LINES[1:], start=1):
                self.reads(f"or, a {words} {word} gules", [0, 0, 1, 0, number, line, 0, 0, 2])

    def test_one_charge(self):
        for number, word in enumerate(told_words.SINGLE):
            one = "an" if word in ("annulet", "increscent", "escutcheon", "arrow") else "a"
            self.reads(f"or, {one} {word} gules", [0, 0, 1, 1, number, 1, 0, 3, 0, 0, 2])
            for size, words in ((1, "small"), (2, "lesser"), (4, "great")):
                self.reads(f"or, a {words} {word} gules", [0, 0, 1, 1, number, 1, 0, size, 0, 0, 2])

    def test_several_charges(self):
        for number, word in enumerate(told_words.SINGLE):
            for how_many in range(2, 11):
                many = told_words.COUNTS[how_many]
                self.reads(f"or, {many} {word}s gules", [0, 0, 1, 1, number, how_many, 0, 3, 0, 0, 2])
                self.reads(f"or, {many} great {word}s gules", [0, 0, 1, 1, number, how_many, 0, 4, 0, 0, 2])

    def test_manners(self):
        for manner, words in enumerate(told_words.MANNERS):
            self.reads(f"or, two swords {words}gules", [0, 0, 1, 1, 13, 2, manner, 3, 0, 0, 2])
            self.reads(f"or, an arrow {words}gules", [0, 0, 1, 1, 15, 1, manner, 3, 0, 0, 2])
            self.reads(f"or, a small arrow {words}gules", [0, 0, 1, 1, 15, 1, manner, 1, 0, 0, 2])

    def test_fills(self):
        self.reads("per pale or and vert, a chief counterchanged", [1, 0, 0, 0, 5, 1, 0, 0, 0, 1])
        self.reads("lozengy of 4 or and vert, two towers in base counterchanged",
                   [2, 6, 4, 0, 0, 5, 1, 1, 12, 2, 6, 3, 1])
        self.reads("or, a chief wavy per pale wavy or and vert", [0, 0, 1, 0, 0, 1, 0, 1, 0, 1, 0, 5])
        self.reads("or, a wheel chequy of 8 or and vert", [0, 0, 1, 1, 14, 1, 0, 3, 0, 2, 5, 8, 0, 0, 5])

    def test_eight_layers(self):
        self.reads("or" + EIGHT, [0, 0, 8] + [0, 0, 0, 0, 0, 0] * 8)


class Blanks(unittest.TestCase):
    def test_of_both_kinds_and_many(self):
        data = read_text("barry of 6 or and azure, two mullets gules")
        self.assertEqual(data, [15, 2, 0, 6, 0, 0, 3, 1, 1, 6, 2, 0, 3, 0, 0, 2])
        for text in (
            "  barry of 6 or and azure, two mullets gules",
            "barry of 6 or and azure, two mullets gules\n\n ",
            "barry\nof\n6\nor\nand\nazure\n,\ntwo\nmullets\ngules",
            "barry  \n of 6    or and \n\n\n azure   ,   two mullets gules",
            "barry of 6 or and azure,two mullets gules",
            "barry of6or and azure ,two mullets gules",
        ):
            self.assertEqual(read_text(text), data, text)

    def test_none_where_none_is_needed(self):
        self.assertEqual(read_text("barry of6or and azure"), [7, 2, 0, 6, 0, 0, 3, 0])
        self.assertEqual(read_text("barry of24wavy or and azure"), [7, 2, 0, 24, 1, 0, 3, 0])
        self.assertEqual(read_text("or,a chief vair,a base vair"), [15, 0, 0, 2, 0, 0, 0, 0, 0, 8, 0, 1, 0, 0, 0, 8])

    def test_words_run_together_are_one(self):
        self.assertEqual(read_text("perpale or and vert"), [-3, 0])
        self.assertEqual(read_text("bendysinister of 6 or and vert"), [-3, 0])
        self.assertEqual(read_text("or, achief vert"), [-3, 4])

    def test_a_word_or_a_number_cut_in_two_is_not_one(self):
        self.assertEqual(read_text("ar gent"), [-3, 0])
        self.assertEqual(read_text("barry of 1 2 or and vert"), [-4, 9])
        self.assertEqual(read_text("barry of 2 4 or and vert"), [-3, 11])

    def test_other_blanks_are_none(self):
        for sign in "\t\r\x0b\x0c\x00\xa0":
            self.assertEqual(read_text("or" + sign), [-1, 2])

    def test_4096_bytes(self):
        self.assertEqual(read([32] * 4094 + signs("or")), [3, 0, 0, 0])
        self.assertEqual(read(signs("or") + [10] * 4094), [3, 0, 0, 0])
        self.assertEqual(read(signs("or") + [32] * 4093 + [33]), [-1, 4095])
        self.assertEqual(read([32] * 4096), [-3, 4096])
        self.assertEqual(read(signs("a") * 4096), [-3, 0])
        self.assertEqual(read(signs("1") * 4096), [-2, 0])
        self.assertEqual(read(signs("barry of ") + signs("1") * 4087), [-2, 9])
        self.assertEqual(read(signs(",") * 4096), [-3, 0])
        self.assertEqual(read(signs("or" + EIGHT) + signs(", a chief or") * 333), [-8, 98])


class Faults(unittest.TestCase):
    def faults(self, kind, rows):
        for text, place in rows:
            self.assertEqual(read_text(text), [-kind, place], text)

    def test_1_a_byte_that_cant_be(self):
        self.faults(1, (
            ("!", 0), (" A", 1), ("Or", 0), ("or.", 2), ("or;", 2), ("or, a chief Or", 12), ("per-pale or and vert", 3),
            ("or, !", 4), ("or, a !", 6), ("or, an !", 7), ("barry of -6 or and vert", 9), ("barry of 6.5 or", 10),
            ("per pale or and !", 16), ("per pale or !", 12), ("per bend !", 9), ("or, two swords in !", 18),
            ("or" + EIGHT + "!", 98), ("or" + EIGHT + " \n!", 100),
        ))

    def test_1_every_byte(self):
        for byte in range(256):
            can_be = byte in (32, 10, 44) or 97 <= byte <= 122 or 48 <= byte <= 57
            self.assertEqual(read([byte] + signs("or"))[0] == -1, not can_be, byte)
            self.assertEqual(read(signs("or ") + [byte]) == [-1, 3], not can_be, byte)

    def test_1_not_before_the_grammar_comes_to_it(self):
        self.faults(3, (("gold !", 0), ("or or !", 3), ("or, a or!", 6), ("per or !", 4), ("or,,!", 3)))
        self.faults(4, (("barry of 25!", 9), ("barry of 1 !", 9)))
        self.faults(5, (("per pale or and or!", 16),))
        self.faults(6, (("or, a chief counterchanged!", 12),))
        self.faults(7, (("or, an small!", 4), ("or, a arrow!", 4)))
        self.faults(8, (("or" + EIGHT + ",!", 98),))

    def test_2_a_number_that_is_none(self):
        self.faults(2, (
            ("barry of 0 or and vert", 9), ("barry of 01 or and vert", 9), ("barry of 06 or and vert", 9),
            ("barry of 1000 or and vert", 9), ("barry of 99999 or and vert", 9), ("barry of 000", 9),
            # Where the grammar comes to it, whatever is wanted there.
            ("0", 0), ("1000", 0), ("or 00", 3), ("or, 0", 4), ("or, a 0", 6), ("or, a 1000 chief or", 6),
            ("barry 0 or", 6), ("per 01", 4), ("per pale or and 0", 16), ("or" + EIGHT + "0", 98),
        ))
        self.faults(4, (("barry of 999 or and vert", 9),))

    def test_3_something_else_at_the_token_that_is_there(self):
        self.faults(3, (
            (",", 0), ("6", 0), ("and", 0), ("gold", 0), ("a chief or", 0), ("counterchanged", 0), ("sinister", 0),
            ("or or", 3), ("or 6", 3), ("or and azure", 3), ("or,,", 3), ("or, or", 4), ("or, 2 swords or", 4),
            ("or, one sword vert", 4), ("or, eleven swords vert", 4), ("or, small sword vert", 4),
            ("per or and vert", 4), ("per quarterly or and vert", 4), ("per pale sinister or and vert", 9),
            ("per bend sinister sinister or and vert", 18), ("per pale wavy wavy or and vert", 14),
            ("per pale straight or and vert", 9), ("per pale or vert", 12), ("per pale or, vert", 11),
            ("per pale or and and", 16), ("per pale of 6 or and vert", 9), ("per pie or and vert", 4),
            ("quarterly of 4 or and vert", 10), ("gyronny sinister or and vert", 8),
            ("barry or and vert", 6), ("barry 6 or and vert", 6), ("barry of or and vert", 9),
            ("barry of six or and vert", 9), ("barry sinister of 6 or and vert", 6), ("barry of , or", 9),
            ("bendy sinister sinister of 6 or and vert", 15), ("bendy of 6 sinister or and vert", 11),
            ("chequy of 6 wavy or and vert", 12), ("lozengy of 6 wavy or and vert", 13), ("barry wavy of 6", 6),
        ))

    def test_3_in_layers(self):
        self.faults(3, (
            ("or, an chief vert", 7), ("or, an cross vert", 7), ("or, an bend sinister vert", 7),
            ("or, an or", 7), ("or, an an arrow vert", 7), ("or, a a sword vert", 6), ("or, a annulets vert", 6),
            ("or, an annulets vert", 7), ("or, a swords vert", 6), ("or, two sword vert", 8), ("or, two chiefs", 8),
            ("or, two chief vert", 8), ("or, a small chief vert", 12), ("or, a small annulets vert", 12),
            ("or, a small small sword vert", 12), ("or, a chief small vert", 12), ("or, a chief in base vert", 12),
            ("or, a pale sinister vert", 11), ("or, a sword wavy vert", 12), ("or, a sword in vert", 15),
            ("or, a sword in chevron vert", 15), ("or, a sword in pale sinister vert", 20),
            ("or, a sword in bend sinister wavy vert", 29), ("or, a sword, a sword", 11),
            ("or, a apple vert", 6), ("or, an owl vert", 7), ("or, a mullets vert", 6), ("or, two crosses vert", 8),
            ("or, a chief or a base vert", 15), ("per pale or and vert, a chief counterchanged wavy", 45),
            ("or, two lesser crosslet vert", 15), ("or, two saltires vert", 8), ("or, two and", 8),
            ("or" + EIGHT + " or", 99),
        ))

    def test_3_at_the_text_s_end(self):
        for text in (
            "", " ", "\n\n ", "per", "per pale", "per pale wavy", "per pale or", "per pale or and", "per bend",
            "per bend sinister", "quarterly", "barry", "barry of", "barry of 6", "barry of 6 wavy", "bendy", "or,",
            "or, ", "or, a", "or, an", "or, two", "or, a chief", "or, a chief wavy", "or, a bend", "or, a bend sinister",
            "or, a small", "or, a sword", "or, a sword in", "or, a sword in bend", "or, a sword in bend sinister",
            "or, two swords", "or, a chief barry of 6 or and", "or, a chief or,",
        ):
            self.assertEqual(read_text(text), [-3, len(text)], text)
            self.assertEqual(read_text(text + " \n"), [-3, len(text) + 2], text)

    def test_4_pieces(self):
        for words in told_words.VARIED:
            place = len(words) + 4
            for pieces in ("1", "25", "26", "99", "100", "999"):
                for behind in ("", " or and vert", " !", " 0", ",", " barry", "or"):
                    self.assertEqual(read_text(f"{words} of {pieces}{behind}"), [-4, place], (words, pieces, behind))
        self.faults(4, (("or, a chief barry of 1 or and vert", 21), ("or, a sword paly of 25", 20)))

    def test_5_the_same_tincture_twice(self):
        for word in told_words.TINCTURES:
            for behind in ("", " or", "!", ",", " 0"):
                self.faults(5, ((f"per pale {word} and {word}{behind}", 14 + len(word)),))
        self.faults(5, (
            ("quarterly or and or", 17), ("gyronny wavy or and or", 20), ("barry of 6 or and or", 18),
            ("chequy of 6 or and or", 19), ("or, a chief per pale or and or", 28), ("or, two swords paly of 3 or and or", 32),
        ))

    def test_6_counterchanged_over_a_plain_field(self):
        self.faults(6, (
            ("or, a chief counterchanged", 12), ("or, a chief wavy counterchanged wavy", 17),
            ("or, two swords counterchanged", 15), ("or, a sword in bend counterchanged 0", 20),
            ("or, a chief per pale or and vert, a base counterchanged", 41),
        ))
        for field in ("per pale or and vert", "quarterly or and vert", "barry of 6 or and vert", "chequy of 6 or and vert"):
            self.assertGreater(read_text(f"{field}, a chief or, a base counterchanged")[0], 0)

    def test_7_a_for_an_and_an_for_a(self):
        for word in told_words.SINGLE:
            vowel = word[0] in "aeiou"
            for behind in (" vert", "", " !", " 0", ",", " counterchanged", " in"):
                self.faults(7, ((f"or,  {'a' if vowel else 'an'} {word}{behind}", 5),))
        for word in ("small", "lesser", "great"):
            for behind in (" arrow vert", " chief", "", "!", " 0"):
                self.faults(7, ((f"or, an {word}{behind}", 4),))
                self.faults(7, ((f"or, a base vert, an\n{word}{behind}", 17),))

    def test_8_a_ninth_layer(self):
        for behind in ("", " a chief or", "!", " 0", ",", " or", "\n"):
            self.faults(8, (("or" + EIGHT + "," + behind, 98), ("or" + EIGHT + " ," + behind, 99)))

    def test_the_first_from_the_left(self):
        self.faults(4, (("barry of 1 or and or, a arrow counterchanged", 9),))
        self.faults(5, (("barry of 2 or and or, a arrow counterchanged", 18),))
        self.faults(7, (("or, a arrow counterchanged", 4),))
        self.faults(6, (("or, an arrow counterchanged, a arrow barry of 1", 13),))


class AsTold(unittest.TestCase):
    def check_text(self, data):
        fault = told_words.fault_of(data)
        answer = read(data)
        if fault:
            self.assertEqual(answer, fault, bytes(data))
            return answer[0]
        self.assertEqual(answer[0], len(answer) - 1, bytes(data))
        self.assertEqual(check(answer[1:]), [0], bytes(data))
        self.assertEqual(print_of(answer[1:])[1:], told_words.in_one_form(data), bytes(data))
        return 0

    def test_many_blazons_with_other_blanks(self):
        choose = random.Random(71)
        for number in range(300):
            field, layers = told.random_arms(choose)
            data = told.arms_bytes(field, layers)
            words = told_words.blazon(field, layers).replace(",", " ,").split(" ")
            text = [choose.choice((" ", "\n", "  ", " \n ")) + word for word in words]
            self.assertEqual(read_text("".join(text)), [len(data)] + data)
            self.check_text(signs(text))

    def test_many_blazons_with_one_token_changed(self):
        choose = random.Random(72)
        others = told_words.ALL_WORDS + [",", "0", "1", "2", "6", "24", "25", "07", "1000", "!", "A", "straight"]
        kinds = {}
        for number in range(4000):
            words = told_words.blazon(*told.random_arms(choose)).replace(",", " ,").split(" ")
            place = choose.randrange(len(words))
            change = choose.randrange(4)
            if change == 0:
                words[place] = choose.choice(others)
            elif change == 1:
                words.insert(place, choose.choice(others))
            elif change == 2:
                words.pop(place)
            else:
                words[place] = choose.choice(words)
            kind = self.check_text(signs(" ".join(words)))
            kinds[kind] = kinds.get(kind, 0) + 1
        self.assertEqual(sorted(kinds), [-7, -6, -5, -4, -3, -2, -1, 0], kinds)

    def test_many_blazons_with_one_byte_changed(self):
        choose = random.Random(73)
        for number in range(3000):
            data = signs(told_words.blazon(*told.random_arms(choose)))
            place = choose.randrange(len(data))
            byte = choose.choice((32, 10, 44, 48, 49, 50, 97, 115, 110, choose.randrange(256)))
            behind = data[place + choose.randrange(2):]
            self.check_text(data[:place] + [byte] + behind)

    def test_many_blazons_with_too_many_layers(self):
        choose = random.Random(74)
        for number in range(200):
            field = told.random_field(choose)
            layers = [told.random_layer(choose, field) for layer in range(choose.randint(7, 10))]
            kind = self.check_text(signs(told_words.blazon(field, layers)))
            self.assertEqual(kind, -8 if len(layers) > 8 else 0)

    def test_any_words(self):
        choose = random.Random(75)
        starts = ("", "or, ", "per pale ", "or, a ", "or, an ", "barry of 6 or and azure, two ", "or, a bend ")
        for number in range(3000):
            words = choose.choices(told_words.ALL_WORDS + [",", "3"], k=choose.randint(0, 4))
            self.check_text(signs(choose.choice(starts) + " ".join(words)))

    def test_every_beginning_of_a_blazon(self):
        choose = random.Random(76)
        for number in range(8):
            data = signs(told_words.blazon(*told.random_arms(choose)))
            for length in range(len(data)):
                self.check_text(data[:length])

    def test_what_follows_the_first_fault_changes_nothing(self):
        choose = random.Random(77)
        for text in ("or or", "barry of 1", "per pale or and or", "or, a chief counterchanged", "or, an small", "or, !"):
            fault = read_text(text)
            self.assertLess(fault[0], 0)
            for number in range(40):
                behind = [choose.choice((32, 10, 44, 33, 255))] + [choose.randrange(256) for byte in range(9)]
                self.assertEqual(read(signs(text) + behind), fault)


class Calls(unittest.TestCase):
    TEXTS = ("", "or", "or or", "barry of 6 or and azure, an annulet counterchanged", "or, a chief !", " " * 4096)

    def test_what_is_handed_in_stays_as_it_was(self):
        for text in self.TEXTS:
            data = signs(text)
            read(data)
            self.assertEqual(data, signs(text))

    def test_twice_the_same(self):
        once = [read_text(text) for text in self.TEXTS]
        for answer in once:
            self.assertIs(type(answer), list)
            self.assertEqual({type(number) for number in answer}, {int})
        self.assertEqual([read_text(text) for text in reversed(self.TEXTS)], once[::-1])


if __name__ == "__main__":
    unittest.main()
