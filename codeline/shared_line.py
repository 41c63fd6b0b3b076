"""The object that the calls are asked of: who has which code, the line, and who has said."""

from codeline.codes import TIPS, is_rate, ks_anew, least_free_k, level_of
from codeline.signs import PLACES, divided_to_nearest, heard, laid

LAST_USER = 255
MOST_SAID = 2047
MOST_HEARD = 1000000

DONE = 0
NO_CODE = -2
SAID_ALREADY = -16
HAS_CODE = -17
WRONG = -22
NO_ROOM = -28
OTHER_RATE = -33
TOO_FAR = -34


def are_within(numbers, most):
    return all([abs(number) <= most for number in numbers])


class SharedLine:
    def __init__(self):
        self.begin()

    def begin(self):
        self.rates = {}
        self.ks = {}
        self.clear_line()
        return [DONE]

    def clear_line(self):
        self.row = [0] * PLACES
        self.said = {}

    def open_user(self, user, rate):
        if user > LAST_USER or not is_rate(rate):
            return [WRONG]
        if len(self.said) > 0:
            return [SAID_ALREADY]
        if user in self.rates:
            return [HAS_CODE]
        if sum(self.rates.values()) + rate > TIPS:
            return [NO_ROOM]
        k = least_free_k(self.rates, self.ks, rate)
        self.rates[user] = rate
        if k is None:
            return self.give_anew(user)
        self.ks[user] = k
        return [k]

    def give_anew(self, new_user):
        before = self.ks
        self.ks = ks_anew(self.rates)
        answer = [self.ks[new_user]]
        # The new user has no k before, so it is not among the moved.
        for user in sorted(before):
            if self.ks[user] != before[user]:
                answer.extend([user, level_of(self.rates[user]), self.ks[user]])
        return answer

    def close_user(self, user):
        if user > LAST_USER:
            return [WRONG]
        if len(self.said) > 0:
            return [SAID_ALREADY]
        if user not in self.rates:
            return [NO_CODE]
        self.rates.pop(user)
        self.ks.pop(user)
        return [DONE]

    def code_of(self, user):
        if user > LAST_USER:
            return [WRONG]
        if user not in self.rates:
            return [NO_CODE]
        return [DONE, level_of(self.rates[user]), self.ks[user]]

    def say(self, user, rate, symbols):
        if user > LAST_USER or not is_rate(rate):
            return [WRONG]
        if user not in self.rates:
            return [NO_CODE]
        if self.rates[user] != rate:
            return [OTHER_RATE]
        if user in self.said:
            return [SAID_ALREADY]
        if not are_within(symbols, MOST_SAID):
            return [TOO_FAR]
        self.row = laid(self.row, level_of(rate), self.ks[user], symbols)
        # Kept beside the line, for who said 0s alone has said something too.
        self.said[user] = True
        return [DONE]

    def tell_line(self):
        answer = [len(self.said)] + self.row
        self.clear_line()
        return answer

    def hear(self, user, rate, row):
        if user > LAST_USER or not is_rate(rate) or not are_within(row, MOST_HEARD):
            return [WRONG]
        if user not in self.rates:
            return [NO_CODE]
        if self.rates[user] != rate:
            return [OTHER_RATE]
        size = PLACES // rate
        sums = heard(row, level_of(rate), self.ks[user])
        return [DONE] + [divided_to_nearest(number, size) for number in sums]
