"""Rows of signs: what is laid on a line of 256 numbers by a code, and what is heard by it.

A code is told here by its level and its k, a sign is 1 or -1. In the line's places
a code has its row again and again; each time is a symbol's.
"""

PLACES = 256


def signs_of(level, k):
    signs = [1]
    for grown in range(level):
        # The code above has k // 2, so the first growth is told by k's highest digit.
        turn = -1 if (k >> (level - 1 - grown)) % 2 == 1 else 1
        signs = signs + [turn * sign for sign in signs]
    return signs


def laid(row, level, k, symbols):
    signs = signs_of(level, k)
    size = len(signs)
    return [row[place] + signs[place % size] * symbols[place // size] for place in range(PLACES)]


def heard_symbol(row, signs, first):
    return sum([sign * row[first + step] for step, sign in enumerate(signs)])


def heard(row, level, k):
    signs = signs_of(level, k)
    return [heard_symbol(row, signs, first) for first in range(0, PLACES, len(signs))]


def divided_to_nearest(number, size):
    whole = number // size
    # number // size lies at or below, so the rest is never below 0, for numbers below 0 too.
    twice_rest = 2 * (number % size)
    if twice_rest > size or (twice_rest == size and whole % 2 == 1):
        return whole + 1
    return whole
