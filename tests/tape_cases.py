"""What the tests of tapes share: numbers told as tapes and back, and the checks that hold for every call."""

import copy
import unittest

GREAT_BASE = 9999999999
BASES = (2, 3, 10, 60, 1000, GREAT_BASE)
BEYOND_BASES = (10 ** 10, 10 ** 10 + 1, 10 ** 13, 2 ** 64 + 1)
BAD_BASES = (1, 0, -1, -2, -10, -GREAT_BASE, -10 ** 5000)


def worth(base, tape):
    number = 0
    for figure in reversed(tape):
        number = number * base + figure
    return number


def tape_of(base, number):
    tape = []
    while number > 0:
        number, figure = divmod(number, base)
        tape.append(figure)
    return tape


def long_tape(base, length):
    tape = [(place * place + 7 * place + 1) % base for place in range(length)]
    tape[-1] = 1
    return tape


# Small figures, the greatest figure alone, noughts within and at the low end, and lengths far apart.
def sundry_tapes(base):
    top = base - 1
    return [
        [], [1], [top], [0, 1], [1, 1], [top, top], [0, top], [top, 1], [0, 0, 1], [1, 0, 1], [top, 0, top],
        [0, top, 0, 1], [top] * 5, [0] * 6 + [1], [top] + [0] * 6 + [top], [1] * 9, [base // 2] * 8 + [1],
        [top] * 12, [0] * 30 + [top], long_tape(base, 40),
    ]


def bad_tapes(base):
    top = base - 1
    tapes = [[0], [0, 0], [1, 0], [0, 1, 0], [top] * 8 + [0], [1] * 499 + [0]]
    for number in (-1, -base, base, base + 1, base * base, 10 ** 5000, -10 ** 5000):
        tapes += [[number], [number, 1], [1, number], [1, number, 1], [0, 0, number]]
    return tapes


class Case(unittest.TestCase):
    # Whatever the answer is, the lists are left as they were, and no answer is one of them.
    def called(self, function, *given):
        before = copy.deepcopy(given)
        answer = function(*given)
        self.assertEqual(given, before)
        for part in answer if type(answer) is tuple else (answer,):
            self.assertFalse(type(part) is list and any(part is each for each in given))
        return answer

    def check_refused(self, error, function, *given):
        before = copy.deepcopy(given)
        with self.assertRaises(error) as caught:
            function(*given)
        self.assertIs(type(caught.exception), error)
        self.assertEqual(given, before)

    def check_tape(self, base, tape, number):
        self.assertIs(type(tape), list)
        for figure in tape:
            self.assertIs(type(figure), int)
            self.assertTrue(0 <= figure < base)
        self.assertNotEqual(tape[-1:], [0])
        # A long number is not shown, for Python refuses to write it out.
        self.assertTrue(worth(base, tape) == number)

    def check_pair_of_tapes(self, base, pair, first, second):
        self.assertIs(type(pair), tuple)
        self.assertEqual(len(pair), 2)
        self.check_tape(base, pair[0], first)
        self.check_tape(base, pair[1], second)
        self.assertIsNot(pair[0], pair[1])
