"""Sums: tapes added, lessened and multiplied, place by place and then with the carries."""

from figuretape.errors import TooSmall
from figuretape.tapes import check_pair, compared


# A column is what has come together at a place, of any size or below nought; all of them together are worth nought
# or more. Whole division rounds downwards and leaves a figure, so a carry and a borrow are the same step.
def carried(base, columns):
    tape = []
    carry = 0
    for column in columns:
        tape.append((column + carry) % base)
        carry = (column + carry) // base
    while carry > 0:
        tape.append(carry % base)
        carry = carry // base
    while len(tape) > 0 and tape[-1] == 0:
        tape.pop()
    return tape


def figure_at(tape, place):
    if place < len(tape):
        return tape[place]
    return 0


def added(base, one, two):
    check_pair(base, one, two)
    places = max(len(one), len(two))
    return carried(base, [figure_at(one, place) + figure_at(two, place) for place in range(places)])


def lessened(base, one, two):
    # The comparison refuses bad bases and bad tapes, ahead of TooSmall.
    if compared(base, one, two) < 0:
        raise TooSmall("the first tape is worth less than the second")
    return carried(base, [figure - figure_at(two, place) for place, figure in enumerate(one)])


def multiplied(base, one, two):
    check_pair(base, one, two)
    columns = [0] * (len(one) + len(two))
    for low, left in enumerate(one):
        for high, right in enumerate(two):
            columns[low + high] = columns[low + high] + left * right
    return carried(base, columns)
