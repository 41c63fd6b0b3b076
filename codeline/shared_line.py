"""The object that the calls are asked of: who has which code, and who has said."""

from codeline.codes import PLACES, is_rate, ks_anew, least_free_k, level_of

LAST_USER = 255

DONE = 0
NO_CODE = -2
SAID_ALREADY = -16
HAS_CODE = -17
WRONG = -22
NO_ROOM = -28


class SharedLine:
    def __init__(self):
        self.begin()

    def begin(self):
        self.rates = {}
        self.ks = {}
        self.row = [0] * PLACES
        self.said = {}
        return [DONE]

    def open_user(self, user, rate):
        if user > LAST_USER or not is_rate(rate):
            return [WRONG]
        if len(self.said) > 0:
            return [SAID_ALREADY]
        if user in self.rates:
            return [HAS_CODE]
        if sum(self.rates.values()) + rate > PLACES:
            return [NO_ROOM]
        k = least_free_k(self.rates, self.ks, rate)
        self.rates[user] = rate
        if k is None:
            return self.give_anew(user)
        self.ks[user] = k
        return [k]

    def give_anew(self, new_user):
        before = self.ks
        self.ks = ks_anew(self.rates)
        answer = [self.ks[new_user]]
        # The new user has no k before, so it is not among the moved.
        for user in sorted(before):
            if self.ks[user] != before[user]:
                answer.extend([user, level_of(self.rates[user]), self.ks[user]])
        return answer

    def close_user(self, user):
        if user > LAST_USER:
            return [WRONG]
        if len(self.said) > 0:
            return [SAID_ALREADY]
        if user not in self.rates:
            return [NO_CODE]
        self.rates.pop(user)
        self.ks.pop(user)
        return [DONE]

    def code_of(self, user):
        if user > LAST_USER:
            return [WRONG]
        if user not in self.rates:
            return [NO_CODE]
        return [DONE, level_of(self.rates[user]), self.ks[user]]
