"""Codes on the tree: rates and levels, the least free k, and codes anew.

A code is told here by its rate and its k. From it grow as many codes of level 8
as its rate says, side by side from k * rate on: its tips. Two codes are apart
just where they have no tip in common.
"""

TIPS = 256

LEVEL_OF_RATE = {256: 0, 128: 1, 64: 2, 32: 3, 16: 4, 8: 5, 4: 6, 2: 7, 1: 8}


def is_rate(number):
    return number in LEVEL_OF_RATE


def level_of(rate):
    return LEVEL_OF_RATE[rate]


def taken_tips(rates, ks):
    taken = [False] * TIPS
    for user in ks:
        rate = rates[user]
        first = ks[user] * rate
        for tip in range(first, first + rate):
            taken[tip] = True
    return taken


def least_free_k(rates, ks, rate):
    taken = taken_tips(rates, ks)
    for k in range(TIPS // rate):
        if True not in taken[k * rate:(k + 1) * rate]:
            return k
    return None


def ks_anew(rates):
    ks = {}
    tip = 0
    for user in sorted(rates, key=lambda one: (-rates[one], one)):
        # Each rate so far is a multiple of this one, so tip is too, and all
        # below tip is taken: the code that begins there has the least k.
        ks[user] = tip // rates[user]
        tip += rates[user]
    return ks
