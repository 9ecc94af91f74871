"""Parts: a tape split by another one, its root, and the same worth told in another base."""

from figuretape.errors import NoDivisor
from figuretape.sums import added, carried, lessened, multiplied
from figuretape.tapes import check_base, check_pair, check_tape, compared


def worth(base, figures):
    number = 0
    for figure in reversed(figures):
        number = number * base + figure
    return number


# The rest is worth less than base times the other tape, so the answer is a figure. The two highest figures of the
# other tape are enough to guess it by: they are all of it or worth at least the base, and the answer is less than
# the base, so the guess is never too small and at most one too great.
def times_within(base, rest, two):
    place = max(len(two) - 2, 0)
    guess = worth(base, rest[place:]) // worth(base, two[place:])
    if compared(base, multiplied(base, two, carried(base, [guess])), rest) > 0:
        return guess - 1
    return guess


def split(base, one, two):
    check_pair(base, one, two)
    if len(two) == 0:
        raise NoDivisor("nothing is split by nought")
    figures = []
    rest = []
    for figure in reversed(one):
        # A nought brought down to an empty rest is no tape by itself, so it is carried too.
        rest = carried(base, [figure] + rest)
        times = times_within(base, rest, two)
        rest = lessened(base, rest, multiplied(base, two, carried(base, [times])))
        figures.append(times)
    figures.reverse()
    return (carried(base, figures), rest)


# Where a guess is above the root, the tape split by it is no more than the root: the middle of both is nearer.
def bettered(base, tape, guess):
    both = added(base, guess, split(base, tape, guess)[0])
    return split(base, both, carried(base, [2]))[0]


def root_of(base, tape):
    if len(tape) == 0:
        return []
    # The first guess is above the root, and no middle, rounded downwards, falls below it; so a guess whose middle is
    # no less than itself is the root.
    guess = [0] * ((len(tape) + 1) // 2) + [1]
    better = bettered(base, tape, guess)
    while compared(base, better, guess) < 0:
        guess = better
        better = bettered(base, tape, guess)
    return guess


def root(base, tape):
    check_base(base)
    check_tape(base, tape)
    answer = root_of(base, tape)
    return (answer, lessened(base, tape, multiplied(base, answer, answer)))


def rebased(base, tape, other):
    check_base(base)
    check_base(other)
    check_tape(base, tape)
    answer = []
    for figure in reversed(tape):
        # The nought keeps a place for the figure where the answer is still empty.
        columns = [part * base for part in answer] + [0]
        columns[0] = columns[0] + figure
        answer = carried(other, columns)
    return answer
