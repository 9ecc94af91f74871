"""Tapes added, lessened and multiplied: points [1] to [4]."""

import unittest

from figuretape.errors import BadBase, BadTape, TooSmall
from figuretape.sums import added, lessened, multiplied
from tape_cases import (
    BAD_BASES, BASES, BEYOND_BASES, GREAT_BASE, Case, bad_tapes, long_tape, sundry_tapes, tape_of, worth,
)

SUMS = (added, lessened, multiplied)


class SumCase(Case):
    def check_added(self, base, one, two):
        self.check_tape(base, self.called(added, base, one, two), worth(base, one) + worth(base, two))

    def check_lessened(self, base, one, two):
        self.check_tape(base, self.called(lessened, base, one, two), worth(base, one) - worth(base, two))

    def check_multiplied(self, base, one, two):
        self.check_tape(base, self.called(multiplied, base, one, two), worth(base, one) * worth(base, two))

    # Lessened both ways: one of them is refused, but where both tapes are worth the same.
    def check_all(self, base, one, two):
        self.check_added(base, one, two)
        self.check_multiplied(base, one, two)
        for more, less in ((one, two), (two, one)):
            if worth(base, more) >= worth(base, less):
                self.check_lessened(base, more, less)
            else:
                self.check_refused(TooSmall, lessened, base, more, less)


class EveryPair(SumCase):
    def test_small_numbers(self):
        for base in BASES:
            tapes = [tape_of(base, number) for number in range(36)]
            for one in tapes:
                for two in tapes:
                    with self.subTest(base=base, one=one, two=two):
                        self.check_all(base, one, two)

    def test_sundry_tapes(self):
        for base in BASES:
            for one in sundry_tapes(base):
                for two in sundry_tapes(base):
                    with self.subTest(base=base, one=one, two=two):
                        self.check_all(base, one, two)

    def test_neighbours_about_the_powers_of_the_base(self):
        for base in BASES:
            for places in (1, 2, 3, 7):
                power = base ** places
                tapes = [tape_of(base, number) for number in (power - 2, power - 1, power, power + 1)]
                for one in tapes:
                    for two in tapes:
                        with self.subTest(base=base, one=one, two=two):
                            self.check_all(base, one, two)

    def test_the_same_list_twice(self):
        for base in BASES:
            for tape in sundry_tapes(base):
                with self.subTest(base=base, tape=tape):
                    self.check_all(base, tape, tape)


class Added(SumCase):
    def test_told_in_figures(self):
        self.assertEqual(added(10, [0, 5, 3], [0, 5, 3]), [0, 0, 7])
        self.assertEqual(added(60, [59, 59], [2]), [1, 0, 1])
        self.assertEqual(added(2, [1, 1], [1, 1]), [0, 1, 1])
        self.assertEqual(added(1000, [999], [1]), [0, 1])

    def test_a_carry_goes_through_every_place(self):
        for base in BASES:
            for length in (1, 2, 9, 60, 500):
                with self.subTest(base=base, length=length):
                    answer = [0] * length + [1]
                    self.assertEqual(self.called(added, base, [base - 1] * length, [1]), answer)
                    self.assertEqual(self.called(added, base, [1], [base - 1] * length), answer)

    def test_a_carry_stops_within(self):
        for base in BASES:
            with self.subTest(base=base):
                self.assertEqual(added(base, [base - 1, base - 1, 0, 1], [1]), [0, 0, 1, 1])

    def test_nought_adds_nothing(self):
        for base in BASES:
            for tape in sundry_tapes(base):
                with self.subTest(base=base, tape=tape):
                    self.assertEqual(self.called(added, base, tape, []), tape)
                    self.assertEqual(self.called(added, base, [], tape), tape)


class Lessened(SumCase):
    def test_told_in_figures(self):
        self.assertEqual(lessened(10, [0, 5, 3], [1]), [9, 4, 3])
        self.assertEqual(lessened(10, [0, 5, 3], [9, 4, 3]), [1])
        self.assertEqual(lessened(60, [1, 0, 1], [2]), [59, 59])
        self.assertEqual(lessened(2, [0, 1, 1], [1, 1]), [1, 1])

    def test_a_borrow_goes_through_every_place(self):
        for base in BASES:
            for length in (1, 2, 9, 60, 500):
                with self.subTest(base=base, length=length):
                    self.assertEqual(self.called(lessened, base, [0] * length + [1], [1]), [base - 1] * length)

    def test_high_figures_that_become_nought_are_left_out(self):
        for base in BASES:
            with self.subTest(base=base):
                self.assertEqual(lessened(base, [1, 1, 1, 1], [0, 1, 1, 1]), [1])
                self.assertEqual(lessened(base, [0, 1, 1], [0, 0, 1]), [0, 1])

    def test_by_itself(self):
        for base in BASES:
            for tape in sundry_tapes(base):
                with self.subTest(base=base, tape=tape):
                    self.assertEqual(self.called(lessened, base, tape, list(tape)), [])
                    self.assertEqual(self.called(lessened, base, tape, tape), [])

    def test_by_nought(self):
        for base in BASES:
            for tape in sundry_tapes(base):
                with self.subTest(base=base, tape=tape):
                    self.assertEqual(self.called(lessened, base, tape, []), tape)

    def test_too_small_by_one(self):
        for base in BASES:
            for number in (0, 1, base - 1, base, base * base - 1, base ** 9, base ** 499):
                less, more = tape_of(base, number), tape_of(base, number + 1)
                with self.subTest(base=base, places=len(less)):
                    self.check_refused(TooSmall, lessened, base, less, more)
                    self.assertEqual(self.called(lessened, base, more, less), [1])

    def test_nought_is_too_small_for_all_but_nought(self):
        for base in BASES:
            for tape in sundry_tapes(base)[1:]:
                with self.subTest(base=base, tape=tape):
                    self.check_refused(TooSmall, lessened, base, [], tape)
            self.assertEqual(self.called(lessened, base, [], []), [])

    # A low figure that is less is no refusal, and a low figure that is more is no help.
    def test_the_worth_tells_not_a_figure(self):
        for base in BASES[1:]:
            with self.subTest(base=base):
                self.check_lessened(base, [0, 0, 2], [base - 1, base - 1, 1])
                self.check_refused(TooSmall, lessened, base, [base - 1, base - 1, 1], [0, 0, 2])


class Multiplied(SumCase):
    def test_told_in_figures(self):
        self.assertEqual(multiplied(10, [0, 5, 3], [2]), [0, 0, 7])
        self.assertEqual(multiplied(10, [9, 9], [9, 9]), [1, 0, 8, 9])
        self.assertEqual(multiplied(60, [30], [30]), [0, 15])
        self.assertEqual(multiplied(2, [1, 1], [1, 1]), [1, 0, 0, 1])

    def test_with_nought(self):
        for base in BASES:
            for tape in sundry_tapes(base):
                with self.subTest(base=base, tape=tape):
                    self.assertEqual(self.called(multiplied, base, tape, []), [])
                    self.assertEqual(self.called(multiplied, base, [], tape), [])

    def test_with_one(self):
        for base in BASES:
            for tape in sundry_tapes(base):
                with self.subTest(base=base, tape=tape):
                    self.assertEqual(self.called(multiplied, base, tape, [1]), tape)
                    self.assertEqual(self.called(multiplied, base, [1], tape), tape)

    def test_with_the_base_itself(self):
        for base in BASES:
            for tape in sundry_tapes(base)[1:]:
                with self.subTest(base=base, tape=tape):
                    self.assertEqual(self.called(multiplied, base, tape, [0, 1]), [0] + tape)
                    self.assertEqual(self.called(multiplied, base, [0, 0, 1], tape), [0, 0] + tape)

    def test_the_greatest_figures_alone(self):
        for base in BASES:
            for one_length, two_length in ((1, 1), (1, 9), (2, 3), (20, 20), (1, 60)):
                with self.subTest(base=base, lengths=(one_length, two_length)):
                    self.check_multiplied(base, [base - 1] * one_length, [base - 1] * two_length)


class LongTapes(SumCase):
    def test_five_hundred_figures(self):
        for base in BASES:
            top, long = [base - 1] * 500, long_tape(base, 500)
            for one, two in ((top, top), (top, long), (long, list(long)), (top, [1]), ([0] * 499 + [1], long)):
                with self.subTest(base=base):
                    self.check_all(base, one, two)
                    self.check_added(base, two, one)
                    self.check_multiplied(base, two, one)

    def test_somewhat_beyond_five_hundred_figures(self):
        for base in (2, 10, GREAT_BASE):
            with self.subTest(base=base):
                self.check_all(base, [base - 1] * 560, long_tape(base, 501))

    def test_bases_somewhat_beyond_ten_figures(self):
        for base in BEYOND_BASES:
            for one in sundry_tapes(base):
                with self.subTest(base=base, one=one):
                    self.check_all(base, one, [base - 1] * 6)


class BadBases(SumCase):
    def test_a_base_below_two(self):
        pairs = (([], []), ([1], []), ([], [1]), ([1], [1]), ([1], [0, 1]), ([0], [0]), ([-1], [1]), ([1], [5, 0]))
        for base in BAD_BASES:
            for function in SUMS:
                for one, two in pairs:
                    with self.subTest(function=function.__name__, one=one, two=two):
                        self.check_refused(BadBase, function, base, one, two)

    def test_a_bad_base_goes_ahead_of_its_own_number_as_a_figure(self):
        for base in (1, 0, -1):
            for function in SUMS:
                with self.subTest(function=function.__name__, base=base):
                    self.check_refused(BadBase, function, base, [base], [base - 1])


class BadTapes(SumCase):
    def test_on_either_side(self):
        for base in BASES:
            for bad in bad_tapes(base):
                for function in SUMS:
                    for good in ([], [1], [base - 1] * 9):
                        with self.subTest(function=function.__name__, base=base):
                            self.check_refused(BadTape, function, base, bad, good)
                            self.check_refused(BadTape, function, base, good, bad)
                    self.check_refused(BadTape, function, base, bad, bad)

    # Each of these pairs would be refused with TooSmall if the list's own numbers were taken as figures.
    def test_ahead_of_too_small(self):
        for one, two in (([-1], [1]), ([], [1, 0]), ([1], [10]), ([0], [1]), ([10], [1, 1, 1]), ([9, 0], [0, 1])):
            with self.subTest(one=one, two=two):
                self.check_refused(BadTape, lessened, 10, one, two)

    def test_a_tape_of_a_greater_base(self):
        for function in SUMS:
            with self.subTest(function=function.__name__):
                self.check_refused(BadTape, function, 59, [59], [1])
                self.check_refused(BadTape, function, 10, [11], [9])
        self.check_all(60, [59], [1])


if __name__ == "__main__":
    unittest.main()
