"""What the tests share: calls put together, answers taken apart, and the
document's words followed step by step, without the program."""

from fractions import Fraction
from functools import lru_cache

from codeline.line import answers

BEGIN = [0]
LINE = [5]
RATES = (1, 2, 4, 8, 16, 32, 64, 128, 256)
NO_RATES = (0, 3, 5, 127, 129, 255, 257, 512, 65536, 4294967295)
NO_USERS = (256, 257, 65536, 4294967295)
ZEROS = [0] * 256


def open_call(user, rate):
    return [1, user, rate]


def close_call(user):
    return [2, user]


def code_call(user):
    return [3, user]


def say_call(user, a, rate=None):
    """rate is how many numbers a has, but where it is told by itself."""
    return [4, user, len(a) if rate is None else rate, len(a), *a]


def hear_call(user, rate, line):
    return [6, user, rate, len(line), *line]


def level_of(rate):
    return 8 - RATES.index(rate)


def size_of(rate):
    """How many places a symbol has: 2 to the level."""
    return 256 // rate


def line_with(numbers):
    """A line of 0s, but for these: place to number."""
    return [numbers.get(place, 0) for place in range(256)]


def ask(*calls):
    """The answer of each call, one list each."""
    told = answers([number for call in calls for number in call])
    parts = []
    place = 0
    while place < len(told):
        count = told[place]
        parts.append(told[place + 1:place + 1 + count])
        assert len(parts[-1]) == count, told
        place += 1 + count
    assert len(parts) == len(calls), (calls, told)
    return parts


def last(*calls):
    return ask(*calls)[-1]


def codes_of(told):
    """User to (level, k), from the answers of code for the users 0 to 255."""
    codes = {}
    for user, answer in enumerate(told):
        if answer != [-2]:
            assert answer[0] == 0 and len(answer) == 3, answer
            codes[user] = (answer[1], answer[2])
    return codes


def all_codes(*calls):
    """The codes of all users behind these calls."""
    return codes_of(ask(*calls, *[code_call(user) for user in range(256)])[len(calls):])


def is_above(upper, lower):
    level, k = lower
    while level > upper[0]:
        level, k = level - 1, k // 2
        if (level, k) == upper:
            return True
    return False


@lru_cache(maxsize=None)
def are_apart(one, other):
    return one != other and not is_above(one, other) and not is_above(other, one)


@lru_cache(maxsize=None)
def grown_row(level, k):
    """The code's row of signs, grown from the code above it."""
    if level == 0:
        return (1,)
    upper = grown_row(level - 1, k // 2)
    return upper + (upper if k % 2 == 0 else tuple(-sign for sign in upper))


@lru_cache(maxsize=None)
def row_in_256(level, k):
    return grown_row(level, k) * 2 ** (8 - level)


def lay_in_words(line, code, a):
    return [number + sign * a[place // 2 ** code[0]]
            for place, (number, sign) in enumerate(zip(line, row_in_256(*code)))]


def hear_in_words(line, code):
    """For each symbol the sum, before it is divided."""
    sums = [0] * 2 ** (8 - code[0])
    for place, (number, sign) in enumerate(zip(line, row_in_256(*code))):
        sums[place // 2 ** code[0]] += sign * number
    return sums


def nearest(number, size):
    # Python's round of a fraction takes, of two equally near ones, the even one.
    return round(Fraction(number, size))


class Words:
    """All seven calls as the document says them, tried k by k and place by place."""

    def __init__(self):
        self.begin()

    def begin(self):
        self.codes = {}
        self.line = list(ZEROS)
        self.said = set()
        return [0]

    def least_k(self, level, codes):
        for k in range(2 ** level):
            if all(are_apart((level, k), other) for other in codes.values()):
                return k
        return None

    def anew(self, levels):
        codes = {}
        for user in sorted(levels, key=lambda user: (levels[user], user)):
            codes[user] = (levels[user], self.least_k(levels[user], codes))
        return codes

    def open(self, user, rate):
        if user > 255 or rate not in RATES:
            return [-22]
        if self.said:
            return [-16]
        if user in self.codes:
            return [-17]
        if sum(2 ** (8 - level) for level, _ in self.codes.values()) + rate > 256:
            return [-28]
        level = level_of(rate)
        k = self.least_k(level, self.codes)
        if k is not None:
            self.codes[user] = (level, k)
            return [k]
        before = self.codes
        levels = {other: code[0] for other, code in before.items()}
        levels[user] = level
        self.codes = self.anew(levels)
        moved = [self.codes[user][1]]
        for other in sorted(before):
            if self.codes[other] != before[other]:
                moved += [other, *self.codes[other]]
        return moved

    def close(self, user):
        if user > 255:
            return [-22]
        if self.said:
            return [-16]
        return [0] if self.codes.pop(user, None) else [-2]

    def code(self, user):
        if user > 255:
            return [-22]
        return [0, *self.codes[user]] if user in self.codes else [-2]

    def say(self, user, rate, a):
        if user > 255 or rate not in RATES:
            return [-22]
        if user not in self.codes:
            return [-2]
        if self.codes[user][0] != level_of(rate):
            return [-33]
        if user in self.said:
            return [-16]
        if any(number < -2047 or number > 2047 for number in a):
            return [-34]
        self.line = lay_in_words(self.line, self.codes[user], a)
        self.said.add(user)
        return [0]

    def tell_line(self):
        told = [len(self.said), *self.line]
        self.line = list(ZEROS)
        self.said = set()
        return told

    def hear(self, user, rate, line):
        if user > 255 or rate not in RATES:
            return [-22]
        if any(number < -1000000 or number > 1000000 for number in line):
            return [-22]
        if user not in self.codes:
            return [-2]
        if self.codes[user][0] != level_of(rate):
            return [-33]
        return [0, *[nearest(number, size_of(rate)) for number in hear_in_words(line, self.codes[user])]]

    def answer(self, call):
        if call[0] in (4, 6):
            kinds = {4: self.say, 6: self.hear}
            return kinds[call[0]](call[1], call[2], call[4:])
        kinds = {0: self.begin, 1: self.open, 2: self.close, 3: self.code, 5: self.tell_line}
        return kinds[call[0]](*call[1:])
