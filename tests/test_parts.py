"""Tapes split, rooted and told in another base: points [1] to [3] and [5] to [7]."""

import math
import unittest

from figuretape.errors import BadBase, BadTape, NoDivisor
from figuretape.parts import rebased, root, split
from tape_cases import (
    BAD_BASES, BASES, BEYOND_BASES, GREAT_BASE, Case, bad_tapes, long_tape, sundry_tapes, tape_of, worth,
)


class SplitCase(Case):
    def check_split(self, base, one, two):
        if two == []:
            self.check_refused(NoDivisor, split, base, one, two)
        else:
            quotient, rest = divmod(worth(base, one), worth(base, two))
            self.check_pair_of_tapes(base, self.called(split, base, one, two), quotient, rest)


class Split(SplitCase):
    def test_told_in_figures(self):
        self.assertEqual(split(10, [0, 5, 3], [2, 1]), ([9, 2], [2]))
        self.assertEqual(split(10, [0, 5, 3], [0, 5]), ([7], []))
        self.assertEqual(split(60, [0, 0, 1], [7]), ([34, 8], [2]))
        self.assertEqual(split(2, [1, 1, 1], [0, 1]), ([1, 1], [1]))

    def test_small_numbers(self):
        for base in BASES:
            tapes = [tape_of(base, number) for number in range(70)]
            for one in tapes:
                for two in tapes[:30]:
                    with self.subTest(base=base, one=one, two=two):
                        self.check_split(base, one, two)

    def test_sundry_tapes(self):
        for base in BASES:
            for one in sundry_tapes(base):
                for two in sundry_tapes(base):
                    with self.subTest(base=base, one=one, two=two):
                        self.check_split(base, one, two)

    # What is split is a product, one less or one more: the rest is nought, the greatest there is, or one.
    def test_products_and_their_neighbours(self):
        for base in BASES:
            for left in sundry_tapes(base)[1:]:
                for right in sundry_tapes(base)[1:15]:
                    product = worth(base, left) * worth(base, right)
                    for number in (product - 1, product, product + 1):
                        with self.subTest(base=base, left=left, right=right):
                            self.check_split(base, tape_of(base, number), right)

    # The highest figures alone would tell a quotient figure that is too great here.
    def test_figures_that_are_nearly_one_more(self):
        for base in BASES:
            top = base - 1
            for two in ([top, 1], [top, 0, 1], [top, top, 1], [top] * 3 + [0, 1], [1, 0, 1], [1] + [0] * 5 + [top]):
                for times in (1, top, base, base * base - 1, base ** 4 + top):
                    for less in (0, 1):
                        number = worth(base, two) * times - less
                        with self.subTest(base=base, two=two, times=times, less=less):
                            self.check_split(base, tape_of(base, number), two)

    def test_by_itself(self):
        for base in BASES:
            for tape in sundry_tapes(base)[1:]:
                with self.subTest(base=base, tape=tape):
                    self.assertEqual(self.called(split, base, tape, list(tape)), ([1], []))
                    self.assertEqual(self.called(split, base, tape, tape), ([1], []))

    def test_by_one(self):
        for base in BASES:
            for tape in sundry_tapes(base):
                with self.subTest(base=base, tape=tape):
                    self.assertEqual(self.called(split, base, tape, [1]), (tape, []))

    def test_by_a_greater_one(self):
        for base in BASES:
            for tape in sundry_tapes(base):
                for greater in (tape_of(base, worth(base, tape) + 1), tape + [1], tape + [0] * 9 + [1]):
                    with self.subTest(base=base, tape=tape, greater=greater):
                        self.assertEqual(self.called(split, base, tape, greater), ([], tape))

    def test_by_one_of_a_single_figure(self):
        for base in BASES:
            for tape in sundry_tapes(base):
                for figure in sorted({1, base // 2, base - 2, base - 1} - {0}):
                    with self.subTest(base=base, tape=tape, figure=figure):
                        self.check_split(base, tape, [figure])

    def test_by_one_as_long_as_itself(self):
        for base in BASES:
            top = base - 1
            for one, two in (([top] * 5, [0] * 4 + [1]), ([top] * 5, [top] * 4 + [1]), ([0, 0, top], [1, 0, top])):
                with self.subTest(base=base, one=one, two=two):
                    self.check_split(base, one, two)

    def test_by_a_power_of_the_base(self):
        for base in BASES:
            tape = [base - 1, 0, 1, base - 1, 1, 0, 0, 1]
            with self.subTest(base=base):
                self.assertEqual(self.called(split, base, tape, [0, 1]), (tape[1:], tape[:1]))
                self.assertEqual(self.called(split, base, tape, [0, 0, 1]), (tape[2:], [base - 1]))
                self.assertEqual(self.called(split, base, tape, [0, 0, 0, 0, 1]), (tape[4:], tape[:4]))

    def test_nought_is_split_into_nought_and_nought(self):
        for base in BASES:
            for tape in sundry_tapes(base)[1:]:
                with self.subTest(base=base, tape=tape):
                    self.check_pair_of_tapes(base, self.called(split, base, [], tape), 0, 0)

    def test_by_nought(self):
        for base in BASES:
            for tape in sundry_tapes(base) + [long_tape(base, 500)]:
                with self.subTest(base=base, tape=tape):
                    self.check_refused(NoDivisor, split, base, tape, [])


class LongSplits(SplitCase):
    def test_five_hundred_figures(self):
        for base in BASES:
            top, long = [base - 1] * 500, long_tape(base, 500)
            for one, two in (
                (top, [1]), (long, [base - 1]), (top, [1, 1]), (long, [base - 1] * 250), (top, long_tape(base, 251)),
                (top, long), (long, list(long)),
            ):
                with self.subTest(base=base, length=len(two)):
                    self.check_split(base, one, two)

    def test_short_by_long(self):
        for base in BASES:
            with self.subTest(base=base):
                self.assertEqual(self.called(split, base, [base - 1], [1] * 500), ([], [base - 1]))

    def test_somewhat_beyond_five_hundred_figures(self):
        for base in (2, 10, GREAT_BASE):
            with self.subTest(base=base):
                self.check_split(base, [base - 1] * 560, long_tape(base, 201))

    def test_bases_somewhat_beyond_ten_figures(self):
        for base in BEYOND_BASES:
            for one in sundry_tapes(base):
                for two in ([base - 1], [base - 1, 1], [1, 0, 1]):
                    with self.subTest(base=base, one=one, two=two):
                        self.check_split(base, one, two)


class Root(Case):
    def check_root(self, base, tape):
        number = worth(base, tape)
        answer = math.isqrt(number)
        self.check_pair_of_tapes(base, self.called(root, base, tape), answer, number - answer * answer)

    def test_told_in_figures(self):
        self.assertEqual(root(10, [0, 5, 3]), ([8, 1], [6, 2]))
        self.assertEqual(root(10, [4, 2, 3]), ([8, 1], []))
        self.assertEqual(root(2, [1, 1, 1]), ([0, 1], [1, 1]))
        self.assertEqual(root(60, [0, 0, 1]), ([0, 1], []))

    def test_nought_and_one(self):
        for base in BASES:
            with self.subTest(base=base):
                self.check_pair_of_tapes(base, self.called(root, base, []), 0, 0)
                self.assertEqual(self.called(root, base, [1]), ([1], []))

    def test_small_numbers(self):
        for base in BASES:
            for number in range(400):
                with self.subTest(base=base, number=number):
                    self.check_root(base, tape_of(base, number))

    def test_sundry_tapes(self):
        for base in BASES:
            for tape in sundry_tapes(base):
                with self.subTest(base=base, tape=tape):
                    self.check_root(base, tape)

    def test_squares_and_their_neighbours(self):
        for base in BASES:
            for tape in sundry_tapes(base)[1:]:
                number = worth(base, tape)
                square = number * number
                with self.subTest(base=base, tape=tape):
                    self.check_pair_of_tapes(base, self.called(root, base, tape_of(base, square)), number, 0)
                    self.check_root(base, tape_of(base, square - 1))
                    self.check_root(base, tape_of(base, square + 1))
                    self.check_root(base, tape_of(base, square + 2 * number))

    def test_sixty_figures_and_somewhat_beyond(self):
        for base in BASES:
            for length in (59, 60, 61, 75):
                for tape in ([base - 1] * length, [0] * (length - 1) + [1], long_tape(base, length)):
                    with self.subTest(base=base, length=length):
                        self.check_root(base, tape)

    def test_bases_somewhat_beyond_ten_figures(self):
        for base in BEYOND_BASES:
            for tape in sundry_tapes(base):
                with self.subTest(base=base, tape=tape):
                    self.check_root(base, tape)


class Rebased(Case):
    def check_rebased(self, base, tape, other):
        answer = self.called(rebased, base, tape, other)
        self.check_tape(other, answer, worth(base, tape))
        self.assertEqual(self.called(rebased, other, answer, base), tape)

    def test_told_in_figures(self):
        self.assertEqual(rebased(10, [0, 5, 3], 60), [50, 5])
        self.assertEqual(rebased(60, [50, 5], 10), [0, 5, 3])
        self.assertEqual(rebased(10, [0, 5, 3], 2), [0, 1, 1, 1, 1, 0, 1, 0, 1])
        self.assertEqual(rebased(10, [0, 5, 3], 1000), [350])

    def test_small_numbers(self):
        for base in BASES:
            for other in BASES:
                for number in range(70):
                    with self.subTest(base=base, other=other, number=number):
                        self.check_rebased(base, tape_of(base, number), other)

    # Each base is told in each: in itself, in a smaller one, in a greater one, and back again.
    def test_sundry_tapes(self):
        for base in BASES:
            for other in BASES:
                for tape in sundry_tapes(base):
                    with self.subTest(base=base, other=other, tape=tape):
                        self.check_rebased(base, tape, other)

    def test_in_the_same_base(self):
        for base in BASES:
            for tape in sundry_tapes(base):
                with self.subTest(base=base, tape=tape):
                    self.assertEqual(self.called(rebased, base, tape, base), tape)

    def test_nought_and_one(self):
        for base in BASES:
            for other in BASES:
                with self.subTest(base=base, other=other):
                    self.assertEqual(self.called(rebased, base, [], other), [])
                    self.assertEqual(self.called(rebased, base, [1], other), [1])

    def test_in_a_base_one_off(self):
        for base in BASES[1:] + BEYOND_BASES:
            for tape in sundry_tapes(base):
                with self.subTest(base=base, tape=tape):
                    self.check_rebased(base, tape, base + 1)
                    self.check_rebased(base, tape, base - 1)

    def test_the_base_itself_and_its_powers(self):
        for base in (2, 3, 10, 60):
            with self.subTest(base=base):
                self.assertEqual(rebased(base, [0, 1], base * base), [base])
                self.assertEqual(rebased(base, [0, 0, 1], base * base), [0, 1])
                self.assertEqual(rebased(base * base, [0, 1], base), [0, 0, 1])
                self.assertEqual(rebased(base * base, [base], base), [0, 1])

    def test_sixty_figures_and_somewhat_beyond(self):
        for base in BASES:
            for other in BASES:
                for length in (59, 60, 61, 90):
                    with self.subTest(base=base, other=other, length=length):
                        self.check_rebased(base, [base - 1] * length, other)
                        self.check_rebased(base, long_tape(base, length), other)


class BadBases(Case):
    def test_split(self):
        pairs = (([], []), ([1], []), ([], [1]), ([1], [1]), ([1], [0, 1]), ([0], []), ([-1], [1]), ([1], [5, 0]))
        for base in BAD_BASES:
            for one, two in pairs:
                with self.subTest(one=one, two=two):
                    self.check_refused(BadBase, split, base, one, two)

    def test_root(self):
        for base in BAD_BASES:
            for tape in ([], [1], [0, 1], [0], [1, 0], [-1], [5]):
                with self.subTest(tape=tape):
                    self.check_refused(BadBase, root, base, tape)

    def test_rebased_from_and_to(self):
        for bad in BAD_BASES:
            for tape in ([], [1], [0, 1], [0], [1, 0], [-1], [10], [11, 1]):
                with self.subTest(tape=tape):
                    self.check_refused(BadBase, rebased, bad, tape, 10)
                    self.check_refused(BadBase, rebased, 10, tape, bad)
                    self.check_refused(BadBase, rebased, bad, tape, bad)
                    self.check_refused(BadBase, rebased, bad, tape, 1)


class BadTapes(Case):
    def test_split_on_either_side(self):
        for base in BASES:
            for bad in bad_tapes(base):
                with self.subTest(base=base):
                    for good in ([1], [base - 1] * 9):
                        self.check_refused(BadTape, split, base, bad, good)
                        self.check_refused(BadTape, split, base, good, bad)
                    self.check_refused(BadTape, split, base, bad, bad)
                    self.check_refused(BadTape, split, base, [], bad)

    def test_ahead_of_no_divisor(self):
        for base in BASES:
            for bad in bad_tapes(base):
                with self.subTest(base=base):
                    self.check_refused(BadTape, split, base, bad, [])

    # Lists of noughts are worth nought, but they are no tapes.
    def test_noughts_are_no_divisor_and_no_tape(self):
        for base in BASES:
            for noughts in ([0], [0, 0], [0] * 500):
                with self.subTest(base=base):
                    self.check_refused(BadTape, split, base, [1], noughts)
                    self.check_refused(BadTape, split, base, [], noughts)

    def test_root(self):
        for base in BASES:
            for bad in bad_tapes(base):
                with self.subTest(base=base):
                    self.check_refused(BadTape, root, base, bad)

    def test_rebased(self):
        for base in BASES:
            for other in BASES:
                for bad in bad_tapes(base):
                    with self.subTest(base=base, other=other):
                        self.check_refused(BadTape, rebased, base, bad, other)

    # The list is a tape of the base that it is told in, not of the one that it is asked for in.
    def test_rebased_takes_the_figures_of_the_first_base(self):
        self.assertEqual(self.called(rebased, 60, [59], 10), [9, 5])
        self.check_refused(BadTape, rebased, 10, [59], 60)


if __name__ == "__main__":
    unittest.main()
