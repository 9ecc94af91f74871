"""What a base and a tape are, and how two tapes are compared: points [1] to [4]."""

import unittest

from figuretape.errors import BadBase, BadTape
from figuretape.tapes import compared
from tape_cases import BAD_BASES, BASES, BEYOND_BASES, GREAT_BASE, Case, long_tape, tape_of, worth


class CompareCase(Case):
    def check_answer(self, base, one, two, answer):
        given = self.called(compared, base, one, two)
        self.assertIs(type(given), int)
        self.assertEqual(given, answer)

    # The answer for the two tapes changed about follows from the first answer.
    def check_both_ways(self, base, one, two, answer):
        self.check_answer(base, one, two, answer)
        self.check_answer(base, two, one, -answer)

    def check_bad_tape_on_either_side(self, base, tape):
        for good in ([], [1], [0, 1], [1] * 9):
            self.check_refused(BadTape, compared, base, tape, good)
            self.check_refused(BadTape, compared, base, good, tape)
        self.check_refused(BadTape, compared, base, tape, tape)


class Compared(CompareCase):
    def test_the_example_of_the_document(self):
        self.assertEqual(worth(10, [0, 5, 3]), 350)
        self.check_both_ways(10, [0, 5, 3], [9, 4, 3], 1)
        self.check_both_ways(10, [0, 5, 3], [1, 5, 3], -1)
        self.check_answer(10, [0, 5, 3], [0, 5, 3], 0)

    def test_the_least_weight_comes_first(self):
        self.check_both_ways(10, [9, 1], [1, 2], -1)
        self.check_both_ways(2, [1, 0, 1], [0, 1, 1], -1)
        self.check_both_ways(60, [59, 1], [0, 2], -1)
        self.check_both_ways(GREAT_BASE, [GREAT_BASE - 1, 1], [0, 2], -1)

    def test_every_pair_of_small_numbers(self):
        for base in (2, 3, 10):
            tapes = [tape_of(base, number) for number in range(40)]
            for one_worth, one in enumerate(tapes):
                for two_worth, two in enumerate(tapes):
                    with self.subTest(base=base, one=one, two=two):
                        answer = (one_worth > two_worth) - (one_worth < two_worth)
                        self.check_answer(base, one, two, answer)

    def test_neighbours_about_each_power_of_the_base(self):
        for base in BASES:
            for places in range(1, 12):
                power = base ** places
                tapes = [tape_of(base, number) for number in (power - 1, power, power + 1)]
                with self.subTest(base=base, places=places):
                    self.check_both_ways(base, tapes[0], tapes[1], -1)
                    self.check_both_ways(base, tapes[1], tapes[2], -1)
                    self.check_both_ways(base, tapes[0], tapes[2], -1)

    def test_same_tapes_in_lists_of_their_own(self):
        for base in BASES:
            for tape in ([1], [0, 1], [1, 0, 1], [base - 1] * 5):
                with self.subTest(base=base, tape=tape):
                    self.check_answer(base, tape, list(tape), 0)
                    self.check_answer(base, tape, tape, 0)

    def test_same_length_with_the_lowest_or_a_middle_figure_more(self):
        for base in BASES:
            for place in (0, 1, 3, 5):
                less, more = [base - 1] * 7, [base - 1] * 7
                less[place] = base - 2
                with self.subTest(base=base, place=place):
                    self.check_both_ways(base, less, more, -1)

    # In the base two the highest figure is always one, so no two tapes of a length differ in it.
    def test_same_length_with_the_highest_figure_more(self):
        for base in BASES[1:]:
            with self.subTest(base=base):
                self.check_both_ways(base, [1] * 6 + [base - 2], [1] * 6 + [base - 1], -1)
                self.check_both_ways(base, [1], [2], -1)

    def test_a_higher_figure_outweighs_all_the_lower_ones(self):
        for base in BASES:
            top = base - 1
            with self.subTest(base=base):
                self.check_both_ways(base, [0, 0, 0, 1, 1], [top, top, top, 0, 1], 1)
                self.check_both_ways(base, [0, 1, 0, 1], [top, 0, 0, 1], 1)
            if base > 2:
                with self.subTest(base=base, place="highest"):
                    self.check_both_ways(base, [0, 0, 0, 2], [top, top, top, 1], 1)

    def test_the_longer_tape_is_worth_more(self):
        for base in BASES:
            with self.subTest(base=base):
                self.check_both_ways(base, [base - 1], [0, 1], -1)
                self.check_both_ways(base, [base - 1] * 4, [0, 0, 0, 0, 1], -1)
                self.check_both_ways(base, [1], [1, 0, 0, 0, 0, 0, 1], -1)

    def test_nought_is_the_empty_tape(self):
        for base in BASES:
            with self.subTest(base=base):
                self.check_answer(base, [], [], 0)
                self.check_both_ways(base, [], [1], -1)
                self.check_both_ways(base, [], [0, 1], -1)
                self.check_both_ways(base, [], [base - 1] * 3, -1)

    def test_figures_are_compared_as_numbers(self):
        self.check_both_ways(60, [9], [10], -1)
        self.check_both_ways(60, [5, 9], [5, 10], -1)
        self.check_both_ways(GREAT_BASE, [999999999], [1000000000], -1)


class LongTapes(CompareCase):
    def test_five_hundred_figures_and_somewhat_beyond(self):
        for base in BASES:
            for length in (499, 500, 501, 650):
                tape = long_tape(base, length)
                with self.subTest(base=base, length=length):
                    self.check_answer(base, tape, list(tape), 0)
                    self.check_both_ways(base, tape, long_tape(base, length - 1), 1)
                    self.check_both_ways(base, tape, [], 1)

    def test_long_tapes_that_differ_at_one_place(self):
        for base in BASES:
            for length, place in ((500, 0), (500, 1), (500, 250), (500, 498), (650, 0), (650, 648)):
                less, more = long_tape(base, length), long_tape(base, length)
                less[place], more[place] = 0, 1
                with self.subTest(base=base, length=length, place=place):
                    self.check_both_ways(base, less, more, -1)

    def test_five_hundred_figures_that_differ_at_the_highest_place(self):
        for base in BASES[1:]:
            less, more = [base - 1] * 499 + [1], [0] * 499 + [2]
            with self.subTest(base=base):
                self.check_both_ways(base, less, more, -1)

    def test_five_hundred_figures_that_differ_at_every_place(self):
        for base in BASES:
            less, more = [base - 1] * 498 + [0, 1], [0] * 498 + [1, 1]
            with self.subTest(base=base):
                self.check_both_ways(base, less, more, -1)

    def test_bases_somewhat_beyond_ten_figures(self):
        for base in BEYOND_BASES:
            with self.subTest(base=base):
                self.check_both_ways(base, [base - 2, base - 1], [base - 1, base - 1], -1)
                self.check_bad_tape_on_either_side(base, [base])


class BadBases(CompareCase):
    def test_bases_below_two(self):
        for base in BAD_BASES:
            for one, two in (([], []), ([1], []), ([], [1]), ([1], [1]), ([0, 1], [1, 1])):
                with self.subTest(one=one, two=two):
                    self.check_refused(BadBase, compared, base, one, two)

    def test_a_bad_base_goes_ahead_of_a_bad_tape(self):
        for base in (1, 0, -1, -10):
            for bad in ([0], [1, 0], [-1], [5], [base], [base - 1, 1]):
                with self.subTest(base=base, bad=bad):
                    self.check_refused(BadBase, compared, base, bad, [])
                    self.check_refused(BadBase, compared, base, [], bad)
                    self.check_refused(BadBase, compared, base, bad, bad)

    def test_two_is_a_base(self):
        self.check_both_ways(2, [0, 1], [1, 1], -1)


class BadTapes(CompareCase):
    def test_a_number_that_is_no_figure_at_each_place(self):
        for base in BASES:
            for number in (-1, -base, -base - 1, base, base + 1, 2 * base, base * base):
                for place in range(5):
                    tape = [1] * 5
                    tape[place] = number
                    with self.subTest(base=base, number=number, place=place):
                        self.check_bad_tape_on_either_side(base, tape)

    def test_a_number_that_is_no_figure_alone(self):
        for base in BASES:
            for number in (-1, -base, base, base + 1):
                with self.subTest(base=base, number=number):
                    self.check_bad_tape_on_either_side(base, [number])

    def test_very_long_numbers_that_are_no_figures(self):
        for number in (10 ** 5000, -10 ** 5000):
            self.check_bad_tape_on_either_side(10, [number])
            self.check_bad_tape_on_either_side(10, [number, 1])

    def test_a_nought_as_the_last_figure(self):
        for base in BASES:
            for tape in ([0], [0, 0], [1, 0], [1, 1, 0], [0, 1, 0], [base - 1] * 8 + [0]):
                with self.subTest(base=base, tape=tape):
                    self.check_bad_tape_on_either_side(base, tape)

    def test_a_bad_tape_is_refused_where_the_lengths_would_tell(self):
        self.check_refused(BadTape, compared, 10, [10], [1, 1, 1])
        self.check_refused(BadTape, compared, 10, [1, 1, 1], [10])
        self.check_refused(BadTape, compared, 10, [-1, 1, 1], [1])

    def test_a_bad_tape_of_five_hundred_figures(self):
        for base in BASES:
            for place in (0, 250, 499):
                for number in (-1, base):
                    tape = long_tape(base, 500)
                    tape[place] = number
                    with self.subTest(base=base, place=place, number=number):
                        self.check_bad_tape_on_either_side(base, tape)
            with self.subTest(base=base, last=0):
                self.check_bad_tape_on_either_side(base, [1] * 499 + [0])

    def test_a_tape_of_one_base_may_be_none_of_another(self):
        self.check_both_ways(60, [10, 59], [11, 59], -1)
        self.check_refused(BadTape, compared, 59, [10, 59], [11, 58])
        self.check_refused(BadTape, compared, 10, [1], [59])

    def test_the_greatest_figure_is_a_figure(self):
        for base in BASES:
            with self.subTest(base=base):
                self.check_answer(base, [base - 1], [base - 1], 0)


class NothingIsChanged(CompareCase):
    def test_the_lists_are_the_same_after_a_comparison(self):
        pairs = (
            ([], []), ([1], []), ([], [0, 1]), ([0, 1], [1, 1]), ([1, 0, 1], [1, 0, 1]),
            (long_tape(10, 500), long_tape(10, 499)), (long_tape(10, 500), long_tape(10, 500)),
        )
        for one, two in pairs:
            one_before, two_before = list(one), list(two)
            compared(10, one, two)
            self.assertEqual((one, two), (one_before, two_before))

    def test_the_lists_are_the_same_after_a_refusal(self):
        self.check_refused(BadBase, compared, 1, [1, 0], [0, 0, 0])
        self.check_refused(BadTape, compared, 10, [1, 0], [0, 0, 0])
        self.check_refused(BadTape, compared, 10, [3, 1], [5, 0, 0])
        self.check_refused(BadTape, compared, 10, [-1, 12], [0, 1])


if __name__ == "__main__":
    unittest.main()
