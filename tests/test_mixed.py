"""Lists that mix all seven calls, each answer held against the document's words
followed step by step."""

import random
import unittest

from codeline.line import answers
from tests.helper import (BEGIN, LINE, NO_RATES, RATES, Words, ask, close_call, code_call, hear_call, open_call,
                          say_call)

MIXES = (
    (range(4), (64, 128)),
    (range(6), (32, 64, 128)),
    (range(10), (1, 16, 32, 64)),
    (range(12), (1, 2, 4, 8, 16)),
    (range(250, 258), RATES),
    (range(0, 256, 17), RATES + (0, 3, 512)),
    ((0, 255, 256), (128, 256)),
)
# Few says between two lines, so that opens and closes come through and others are moved too.
KINDS = ("open",) * 7 + ("say",) * 4 + ("line",) * 4 + ("close",) * 4 + ("code",) * 2 + ("hear",) * 2


class Mixer:
    """Puts a list of calls together; it follows the words so that calls often fit."""

    def __init__(self, seed, users, rates):
        self.chance = random.Random(seed)
        self.users = users
        self.rates = rates
        self.words = Words()
        self.told_lines = [[0] * 256]

    def user_and_rate(self):
        user = self.chance.choice(self.users)
        if user in self.words.codes and self.chance.random() < 0.85:
            return user, 2 ** (8 - self.words.codes[user][0])
        return user, self.chance.choice(self.rates + NO_RATES[:1])

    def say(self):
        user, rate = self.user_and_rate()
        if rate not in RATES:
            return say_call(user, [], rate=rate)
        most = self.chance.choice((1, 10, 2047, 2047))
        a = [self.chance.randint(-most, most) for _ in range(rate)]
        if self.chance.random() < 0.15:
            a[self.chance.randrange(rate)] = self.chance.choice((2047, 2048, -2047, -2048, 32767, -32768))
        return say_call(user, a)

    def hear(self):
        user, rate = self.user_and_rate()
        line = list(self.chance.choice(self.told_lines[-3:]))
        kind = self.chance.choice(("told", "disturbed", "mixed", "ends", "far"))
        if kind == "disturbed":
            line = [number + self.chance.randint(-2, 2) for number in line]
        elif kind == "mixed":
            line = [self.chance.randint(-300, 300) for _ in range(256)]
        elif kind == "ends":
            line = [self.chance.choice((-1000000, 1000000, 999999)) for _ in range(256)]
        elif kind == "far" and self.chance.random() < 0.5:
            line[self.chance.randrange(256)] = self.chance.choice((1000001, -1000001, 2147483647, -2147483648))
        return hear_call(user, rate, line)

    def one(self):
        if self.chance.random() < 0.01:
            return BEGIN
        kind = self.chance.choice(KINDS)
        if kind == "say":
            return self.say()
        if kind == "hear":
            return self.hear()
        if kind == "line":
            return LINE
        user = self.chance.choice(self.users)
        if kind == "open":
            return open_call(user, self.chance.choice(self.rates))
        return close_call(user) if kind == "close" else code_call(user)

    def calls_and_answers(self):
        calls = []
        wanted = []
        numbers = 0
        while len(calls) < 400:
            call = self.one()
            numbers += len(call)
            if numbers > 30000:
                break
            calls.append(call)
            wanted.append(self.words.answer(call))
            if call == LINE:
                self.told_lines.append(wanted[-1][1:])
        return calls, wanted


class AsTheWordsSay(unittest.TestCase):
    def test_mixed_lists(self):
        seen = {}
        moved = 0
        for seed in range(16):
            for users, rates in MIXES:
                calls, wanted = Mixer(seed, users, rates).calls_and_answers()
                self.assertEqual(ask(*calls), wanted, (seed, users, rates))
                for call, answer in zip(calls, wanted):
                    key = (call[0], min(answer[0], 0))
                    seen[key] = seen.get(key, 0) + 1
                    moved += 1 if call[0] == 1 and len(answer) > 1 else 0
        # Else these lists would say little of that answer.
        every = [(0, 0), (1, 0), (1, -22), (1, -16), (1, -17), (1, -28), (2, 0), (2, -22), (2, -16), (2, -2),
                 (3, 0), (3, -22), (3, -2), (4, 0), (4, -22), (4, -2), (4, -33), (4, -16), (4, -34), (5, 0),
                 (6, 0), (6, -22), (6, -2), (6, -33)]
        self.assertEqual(sorted(seen), sorted(every))
        self.assertGreater(min(seen.values()), 20, seen)
        self.assertGreater(moved, 40)

    def test_asked_twice_and_not_changed(self):
        for users, rates in MIXES:
            calls, _ = Mixer(77, users, rates).calls_and_answers()
            numbers = [number for call in calls for number in call]
            before = list(numbers)
            once = answers(numbers)
            self.assertEqual(numbers, before)
            self.assertEqual(answers(numbers), once)


class AtItsLongest(unittest.TestCase):
    def test_400_calls_that_say_and_tell(self):
        calls = [open_call(user, 1) for user in range(100)]
        for turn in range(3):
            calls += [say_call(user, [user - 50 + turn]) for user in range(99)] + [LINE]
        self.assertEqual(len(calls), 400)
        words = Words()
        self.assertEqual(ask(*calls), [words.answer(call) for call in calls])

    def test_400_lines(self):
        self.assertEqual(answers(LINE * 400), ([257] + [0] * 257) * 400)

    def test_nearly_30000_numbers_of_hears(self):
        calls = [open_call(0, 128), open_call(1, 64), open_call(2, 32), open_call(3, 32)]
        rates = (128, 64, 32, 32)
        for turn in range(115):
            line = [(turn * 7919 + place * 104729) % 2000001 - 1000000 for place in range(256)]
            calls.append(hear_call(turn % 4, rates[turn % 4], line))
        self.assertEqual(sum(len(call) for call in calls), 29912)
        words = Words()
        self.assertEqual(ask(*calls), [words.answer(call) for call in calls])

    def test_nearly_30000_numbers_of_says(self):
        calls = [open_call(9, 256)]
        for turn in range(114):
            calls += [say_call(9, [(turn + place) % 4095 - 2047 for place in range(256)]), LINE]
        self.assertEqual(sum(len(call) for call in calls), 29757)
        words = Words()
        self.assertEqual(ask(*calls), [words.answer(call) for call in calls])


if __name__ == "__main__":
    unittest.main()
