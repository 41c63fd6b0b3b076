"""Codes on the tree: rates and levels, the least free k, and codes anew.

A code is told here by its rate and its k. From it grow as many codes of level 8
as its rate says, side by side from k * rate on: its places. Two codes are apart
just where they have no place in common.
"""

PLACES = 256

LEVEL_OF_RATE = {256: 0, 128: 1, 64: 2, 32: 3, 16: 4, 8: 5, 4: 6, 2: 7, 1: 8}


def is_rate(number):
    return number in LEVEL_OF_RATE


def level_of(rate):
    return LEVEL_OF_RATE[rate]


def taken_places(rates, ks):
    taken = [False] * PLACES
    for user in ks:
        rate = rates[user]
        first = ks[user] * rate
        for place in range(first, first + rate):
            taken[place] = True
    return taken


def least_free_k(rates, ks, rate):
    taken = taken_places(rates, ks)
    for k in range(PLACES // rate):
        if True not in taken[k * rate:(k + 1) * rate]:
            return k
    return None


def ks_anew(rates):
    ks = {}
    place = 0
    for user in sorted(rates, key=lambda one: (-rates[one], one)):
        # Each rate so far is a multiple of this one, so place is too, and all
        # below place is taken: the code that begins there has the least k.
        ks[user] = place // rates[user]
        place += rates[user]
    return ks
