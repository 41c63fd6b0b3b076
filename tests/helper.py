"""What the tests share: calls put together, answers taken apart, and the
document's words of codes followed step by step, without the program."""

from functools import lru_cache

from codeline.line import answers

BEGIN = [0]
RATES = (1, 2, 4, 8, 16, 32, 64, 128, 256)
NO_RATES = (0, 3, 5, 127, 129, 255, 257, 512, 65536, 4294967295)
NO_USERS = (256, 257, 65536, 4294967295)


def open_call(user, rate):
    return [1, user, rate]


def close_call(user):
    return [2, user]


def code_call(user):
    return [3, user]


def ask(*calls):
    """The answer of each call, one list each."""
    told = answers([number for call in calls for number in call])
    parts = []
    place = 0
    while place < len(told):
        count = told[place]
        parts.append(told[place + 1:place + 1 + count])
        assert len(parts[-1]) == count, told
        place += 1 + count
    assert len(parts) == len(calls), (calls, told)
    return parts


def last(*calls):
    return ask(*calls)[-1]


def codes_of(told):
    """User to (level, k), from the answers of code for the users 0 to 255."""
    codes = {}
    for user, answer in enumerate(told):
        if answer != [-2]:
            assert answer[0] == 0 and len(answer) == 3, answer
            codes[user] = (answer[1], answer[2])
    return codes


def all_codes(*calls):
    """The codes of all users behind these calls."""
    return codes_of(ask(*calls, *[code_call(user) for user in range(256)])[len(calls):])


def is_above(upper, lower):
    level, k = lower
    while level > upper[0]:
        level, k = level - 1, k // 2
        if (level, k) == upper:
            return True
    return False


@lru_cache(maxsize=None)
def are_apart(one, other):
    return one != other and not is_above(one, other) and not is_above(other, one)


class Words:
    """open, close and code as the document says them, tried k by k."""

    def __init__(self):
        self.codes = {}

    def least_k(self, level, codes):
        for k in range(2 ** level):
            if all(are_apart((level, k), other) for other in codes.values()):
                return k
        return None

    def anew(self, levels):
        codes = {}
        for user in sorted(levels, key=lambda user: (levels[user], user)):
            codes[user] = (levels[user], self.least_k(levels[user], codes))
        return codes

    def open(self, user, rate):
        if user > 255 or rate not in RATES:
            return [-22]
        if user in self.codes:
            return [-17]
        if sum(2 ** (8 - level) for level, _ in self.codes.values()) + rate > 256:
            return [-28]
        level = 8 - RATES.index(rate)
        k = self.least_k(level, self.codes)
        if k is not None:
            self.codes[user] = (level, k)
            return [k]
        before = self.codes
        levels = {other: code[0] for other, code in before.items()}
        levels[user] = level
        self.codes = self.anew(levels)
        moved = [self.codes[user][1]]
        for other in sorted(before):
            if self.codes[other] != before[other]:
                moved += [other, *self.codes[other]]
        return moved

    def close(self, user):
        if user > 255:
            return [-22]
        return [0] if self.codes.pop(user, None) else [-2]

    def code(self, user):
        if user > 255:
            return [-22]
        return [0, *self.codes[user]] if user in self.codes else [-2]

    def answer(self, call):
        if call[0] == 0:
            self.codes = {}
            return [0]
        if call[0] == 1:
            return self.open(call[1], call[2])
        return self.close(call[1]) if call[0] == 2 else self.code(call[1])
