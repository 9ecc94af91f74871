"""Tapes: what is one and what is none, and which of two is worth more."""

from figuretape.errors import BadBase, BadTape


# The refusals don't show the number: Python refuses to write out a very long one, with an error of its own.
def check_base(base):
    if base < 2:
        raise BadBase("a base is a whole number from two on")


def check_tape(base, tape):
    for figure in tape:
        if figure < 0 or figure >= base:
            raise BadTape("a figure is a whole number from nought to one less than the base")
    if len(tape) > 0 and tape[-1] == 0:
        raise BadTape("the last figure of a tape is never nought")


def check_pair(base, one, two):
    check_base(base)
    check_tape(base, one)
    check_tape(base, two)


def order(left, right):
    if left < right:
        return -1
    if left > right:
        return 1
    return 0


def compared(base, one, two):
    check_pair(base, one, two)
    # A last figure is never nought, so the longer tape is worth more whatever its figures are.
    answer = order(len(one), len(two))
    place = len(one) - 1
    while answer == 0 and place >= 0:
        answer = order(one[place], two[place])
        place = place - 1
    return answer
