import inspect
import random
import unittest

import told
import told_words
from shieldwords import desk
from shieldwords.desk import apart, at, check, draw, drawing, judge, like, print_of, read

ARMS = [1, 7, 5, 8, 0, 2, 0, 12, 4, 1, 1, 15, 10, 6, 4, 0, 2, 6, 24, 0, 3, 1]


class Interface(unittest.TestCase):
    ARGUMENTS = {
        "check": ["a"], "at": ["p", "r", "a"], "draw": ["a"], "drawing": ["d"], "apart": ["o", "d", "e"],
        "like": ["d", "e"], "read": ["t"], "print_of": ["a"], "judge": ["a"],
    }

    def test_names_and_arguments(self):
        for name, arguments in self.ARGUMENTS.items():
            self.assertEqual(list(inspect.signature(getattr(desk, name)).parameters), arguments, name)


class WordsArmsAndDrawings(unittest.TestCase):
    def test_read_printed_and_read_again(self):
        choose = random.Random(1)
        for number in range(300):
            words = told_words.blazon(*told.random_arms(choose))
            first = read(list(words.replace(" ", choose.choice((" ", "\n", "  "))).encode()))
            printed = print_of(first[1:])
            self.assertEqual(bytes(printed[1:]).decode(), words)
            self.assertEqual(read(printed[1:]), first)
            self.assertEqual(check(first[1:]), [0])

    def test_arms_and_their_blazons_are_one_to_one(self):
        choose = random.Random(2)
        arms = [told.arms_bytes(*told.random_arms(choose)) for number in range(300)]
        for data in arms:
            other = list(data)
            other[choose.randrange(len(other))] = choose.randrange(10)
            if check(other) == [0]:
                self.assertEqual(print_of(other) == print_of(data), other == data)

    def test_drawn_as_at_answers(self):
        choose = random.Random(3)
        for number in range(12):
            words = told_words.blazon(*told.random_arms(choose))
            arms = read(list(words.encode()))[1:]
            shown = [[at(16 * x + 8, 16 * y + 8, arms)[0] for x in range(30)] for y in range(36)]
            self.assertEqual(draw(arms)[1:], told.drawing_bytes(shown), words)

    def test_drawn_arms_held_against_one_another(self):
        choose = random.Random(4)
        for number in range(60):
            drawn = [draw(told.arms_bytes(*told.random_arms(choose)))[1:] for arms in range(2)]
            everywhere, at_open = apart(0, *drawn)[0], apart(1, *drawn)[0]
            self.assertTrue(everywhere - 300 <= at_open <= everywhere)
            self.assertEqual(like(*drawn), [1 if at_open < 68 else 0])
            self.assertEqual(everywhere == 0, drawn[0] == drawn[1])
            self.assertEqual(apart(0, drawn[0], drawn[0]), [0])

    def test_a_layer_judged_to_show_nothing_new_can_be_left_out(self):
        choose = random.Random(5)
        for number in range(40):
            field, layers = told.random_arms(choose)
            answer = judge(told.arms_bytes(field, layers))
            if answer[0] == 3:
                k = answer[1]
                drawn = [draw(told.arms_bytes(field, layers[:many]))[1:] for many in (k - 1, k)]
                self.assertLess(apart(0, *drawn)[0], 4)


class EachCallStandsByItself(unittest.TestCase):
    def calls(self):
        drawn, blazon = draw(ARMS)[1:], print_of(ARMS)[1:]
        handed = (ARMS, [0, 9], [], drawn, blazon, [0, 3, 0])
        calls = [(call, (data,)) for call in (check, draw, drawing, read, print_of, judge) for data in handed]
        calls += [(at, (p, 288, data)) for p in (0, 240, 480) for data in handed]
        calls += [(apart, (o, drawn, data)) for o in (0, 1, 2) for data in handed]
        return calls + [(like, (data, drawn)) for data in handed]

    def test_in_whatever_order(self):
        calls = self.calls()
        once = [call(*handed) for call, handed in calls]
        order = list(range(len(calls)))
        random.Random(6).shuffle(order)
        for k in order:
            call, handed = calls[k]
            self.assertEqual(call(*handed), once[k], (call, handed))
        self.assertEqual(calls, self.calls())

    def test_answers_are_lists_of_whole_numbers(self):
        for call, handed in self.calls():
            answer = call(*handed)
            self.assertIs(type(answer), list)
            self.assertEqual({type(number) for number in answer}, {int}, call)


if __name__ == "__main__":
    unittest.main()
