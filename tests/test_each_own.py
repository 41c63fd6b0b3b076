"""What holds, a and b: each one's own is heard, just so, whatever others said, and
though the line is disturbed."""

import random
import unittest

from tests.helper import (LINE, RATES, ask, close_call, code_call, hear_call, hear_in_words, last, level_of,
                          open_call, row_in_256, say_call, size_of)

# Rates of users 0, 1, 2 ..; together 256 at most.
MIXES = (
    (256,),
    (128, 128),
    (64, 128, 64),
    (1, 128, 2, 64, 4, 32, 8, 16, 1),
    (1, 2, 4, 8, 16, 32, 64, 128),
    (16,) * 16,
    (1, 16, 2, 32, 1, 64, 8, 4, 2, 1),
    (1,) * 40 + (2,) * 20 + (4,) * 10 + (8,) * 6,
)

# Four of rate 64, two of which go, so that one of rate 128 moves both others.
MOVING = [open_call(user, 64) for user in range(4)] + [close_call(1), close_call(3), open_call(7, 128)]
MOVED_RATES = {7: 128, 0: 64, 2: 64}


def mixed_symbols(chance, rate):
    kind = chance.choice(("mixed", "most", "least", "small"))
    if kind == "most":
        return [2047] * rate
    if kind == "least":
        return [-2047] * rate
    most = 2047 if kind == "mixed" else 3
    return [chance.randint(-most, most) for _ in range(rate)]


def hear_all(opens, rates, line):
    """What each user hears on the line, 100 hears in one list."""
    users = sorted(rates)
    told = []
    for first in range(0, len(users), 100):
        hears = [hear_call(user, rates[user], line) for user in users[first:first + 100]]
        told += ask(*opens, *hears)[len(opens):]
    return dict(zip(users, told))


def codes_behind(opens, users):
    told = ask(*opens, *[code_call(user) for user in users])[len(opens):]
    return {user: tuple(answer[1:]) for user, answer in zip(users, told)}


class EachOnesOwn(unittest.TestCase):
    def said_and_line(self, opens, rates, chance, silent):
        said = {user: mixed_symbols(chance, rate) for user, rate in rates.items() if user not in silent}
        order = list(said)
        chance.shuffle(order)
        told = ask(*opens, *[say_call(user, said[user]) for user in order], LINE)
        self.assertEqual(told[len(opens):-1], [[0]] * len(said))
        self.assertEqual(told[-1][0], len(said))
        wanted = {user: [0] + said.get(user, [0] * rate) for user, rate in rates.items()}
        return wanted, told[-1][1:]

    def each_case(self):
        for seed in range(3):
            chance = random.Random(seed)
            for mix in MIXES:
                rates = dict(enumerate(mix))
                yield chance, [open_call(user, rate) for user, rate in rates.items()], rates
            yield chance, MOVING, MOVED_RATES

    def test_all_say(self):
        for chance, opens, rates in self.each_case():
            wanted, line = self.said_and_line(opens, rates, chance, ())
            self.assertEqual(hear_all(opens, rates, line), wanted)

    def test_some_say_nothing(self):
        for chance, opens, rates in self.each_case():
            silent = [user for user in rates if chance.random() < 0.4]
            wanted, line = self.said_and_line(opens, rates, chance, silent)
            self.assertEqual(hear_all(opens, rates, line), wanted)

    def test_all_saying_2047(self):
        for number in (2047, -2047):
            for mix in MIXES:
                opens = [open_call(user, rate) for user, rate in enumerate(mix)]
                says = [say_call(user, [number] * rate) for user, rate in enumerate(mix)]
                line = last(*opens, *says, LINE)[1:]
                wanted = {user: [0] + [number] * rate for user, rate in enumerate(mix)}
                self.assertEqual(hear_all(opens, dict(enumerate(mix)), line), wanted)

    def test_heard_in_the_same_list_that_said_it(self):
        opens = [open_call(0, 128), open_call(1, 64), open_call(2, 64)]
        says = [say_call(0, [5] * 128), say_call(1, [-6] * 64), say_call(2, [7] * 64)]
        line = last(*opens, *says, LINE)[1:]
        hears = [hear_call(0, 128, line), hear_call(1, 64, line), hear_call(2, 64, line)]
        wanted = [[0] + [5] * 128, [0] + [-6] * 64, [0] + [7] * 64]
        self.assertEqual(ask(*opens, *says, LINE, *hears)[-3:], wanted)
        self.assertEqual(ask(*opens, *says, *hears)[-3:], wanted)

    def test_line_after_line(self):
        opens = [open_call(0, 128), open_call(1, 64), open_call(2, 64)]
        first = last(*opens, say_call(0, [5] * 128), say_call(1, [6] * 64), LINE)[1:]
        second = ask(*opens, say_call(0, [5] * 128), say_call(1, [6] * 64), LINE, say_call(2, [7] * 64), LINE)[-1][1:]
        rates = {0: 128, 1: 64, 2: 64}
        self.assertEqual(hear_all(opens, rates, first),
                         {0: [0] + [5] * 128, 1: [0] + [6] * 64, 2: [0] + [0] * 64})
        self.assertEqual(hear_all(opens, rates, second),
                         {0: [0] + [0] * 128, 1: [0] + [0] * 64, 2: [0] + [7] * 64})

    def test_disturbed_by_less_than_half(self):
        tried = 0
        for chance, opens, rates in self.each_case():
            wanted, line = self.said_and_line(opens, rates, chance, [user for user in rates if user % 3 == 2])
            codes = codes_behind(opens, sorted(rates))
            for most in (1, 2, 9):
                added = [chance.randint(-most, most) if chance.random() < 0.3 else 0 for _ in range(256)]
                disturbed = [number + more for number, more in zip(line, added)]
                heard = hear_all(opens, rates, disturbed)
                for user, rate in rates.items():
                    for symbol, number in enumerate(hear_in_words(added, codes[user])):
                        if 2 * abs(number) < size_of(rate):
                            self.assertEqual(heard[user][1 + symbol], wanted[user][1 + symbol])
                            tried += 1 if number else 0
        # Else these lines would say little of a disturbed line.
        self.assertGreater(tried, 1000)

    def test_disturbed_by_just_less_than_half_at_each_level(self):
        for rate in RATES[:-1]:
            less = size_of(rate) // 2 - 1
            user = size_of(rate) - 1
            opens = [open_call(other, rate) for other in range(user + 1)]
            signs = row_in_256(level_of(rate), user)
            for said in (2047, 4, 3, 0, -3, -4, -2047):
                line = last(*opens, say_call(user, [said] * rate), LINE)[1:]
                for more in (less, -less):
                    disturbed = list(line)
                    for symbol in range(rate):
                        place = symbol * size_of(rate) + symbol % size_of(rate)
                        disturbed[place] += more * signs[place]
                    self.assertEqual(last(*opens, hear_call(user, rate, disturbed)), [0] + [said] * rate)

    def test_disturbed_by_just_half(self):
        # Half of 2 to the level makes two equally near: the even one is heard, so an odd one is lost.
        for rate in RATES[:-1]:
            half = size_of(rate) // 2
            user = size_of(rate) - 1
            opens = [open_call(other, rate) for other in range(user + 1)]
            signs = row_in_256(level_of(rate), user)
            for said in (2047, 2046, 4, 3, 0, -3, -4, -2047):
                line = last(*opens, say_call(user, [said] * rate), LINE)[1:]
                for more in (1, -1):
                    disturbed = list(line)
                    disturbed[255] += more * half * signs[255]
                    wanted = [said] * (rate - 1) + [said if said % 2 == 0 else said + more]
                    self.assertEqual(last(*opens, hear_call(user, rate, disturbed)), [0] + wanted)

    def test_disturbed_at_level_0_by_anything(self):
        a = [number - 128 for number in range(256)]
        line = last(open_call(0, 256), say_call(0, a), LINE)[1:]
        line[9] += 1
        line[200] -= 1
        a[9] += 1
        a[200] -= 1
        self.assertEqual(last(open_call(0, 256), hear_call(0, 256, line)), [0] + a)

    def test_disturbed_by_what_the_code_does_not_hear(self):
        # Whatever a code apart lays, though nobody has it: nothing of it is heard.
        opens = [open_call(0, 64), open_call(1, 64)]
        line = last(*opens, say_call(0, [50] * 64), say_call(1, [-51] * 64), LINE)[1:]
        disturbed = [number + 900000 * sign for number, sign in zip(line, row_in_256(1, 1))]
        self.assertEqual(hear_all(opens, {0: 64, 1: 64}, disturbed), {0: [0] + [50] * 64, 1: [0] + [-51] * 64})


if __name__ == "__main__":
    unittest.main()
