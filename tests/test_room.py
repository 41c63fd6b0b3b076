"""What holds, c and d: always room, who isn't moved keeps the code, all are apart.

Many mixed calls, each answer held against the document's words followed step by
step, and the codes behind each call looked at one against another."""

import random
import unittest

from codeline.shared_line import SharedLine
from tests.helper import RATES, Words, are_apart, ask, close_call, code_call, open_call


def mixed_calls(seed, users, rates, count):
    """Opens and closes that mostly fit, with some that don't and some codes."""
    chance = random.Random(seed)
    calls = []
    for _ in range(count):
        user = chance.choice(users)
        kind = chance.choice((1, 1, 1, 2, 2, 3))
        if kind == 1:
            calls.append(open_call(user, chance.choice(rates)))
        else:
            calls.append(close_call(user) if kind == 2 else code_call(user))
    return calls


MIXES = (
    (range(6), (32, 64, 128)),
    (range(12), (16, 32, 64)),
    (range(10), (1, 1, 16, 32, 64, 128)),
    (range(20), (1, 2, 4, 8, 16, 32, 64)),
    (range(250, 259), RATES),
    (range(40), (4, 8, 16)),
    (range(0, 256, 9), RATES + (0, 3, 512)),
)


class AsTheWordsSay(unittest.TestCase):
    def test_mixed_calls(self):
        moved = 0
        for seed in range(6):
            for users, rates in MIXES:
                calls = mixed_calls(seed, users, rates, 400)
                words = Words()
                wanted = [words.answer(call) for call in calls]
                self.assertEqual(ask(*calls), wanted, (seed, users, rates))
                moved += sum(1 for call, answer in zip(calls, wanted) if call[0] == 1 and len(answer) > 1)
        # Else these lists would say little of codes anew.
        self.assertGreater(moved, 100)

    def test_many_small_ones_and_one_that_needs_room(self):
        for step in (2, 5):
            calls = [open_call(user, 1) for user in range(256)]
            calls += [close_call(user) for user in range(0, 16 * step, step)]
            for rate in (2, 16):
                words = Words()
                wanted = [words.answer(call) for call in calls + [open_call(0, rate)]]
                self.assertEqual(ask(*calls, open_call(0, rate)), wanted, (step, rate))


class AlwaysRoom(unittest.TestCase):
    def setUp(self):
        self.shared = SharedLine()

    def codes(self):
        told = {user: self.shared.code_of(user) for user in range(256)}
        return {user: tuple(answer[1:]) for user, answer in told.items() if answer[0] == 0}

    def look_at(self, call, before, answer):
        """The codes behind a call, once they are seen to be as they should."""
        behind = self.codes()
        listed = sorted(behind.values())
        for place, code in enumerate(listed):
            self.assertTrue(0 <= code[0] <= 8 and 0 <= code[1] < 2 ** code[0], code)
            for other in listed[place + 1:]:
                self.assertTrue(are_apart(code, other), (call, code, other))
        moved = {}
        if call[0] == 1 and answer[0] >= 0:
            self.assertEqual(len(answer) % 3, 1)
            moved = {answer[i]: (answer[i + 1], answer[i + 2]) for i in range(1, len(answer), 3)}
            self.assertEqual(answer[1::3], sorted(moved))
            self.assertEqual(behind[call[1]][1], answer[0])
        for user in set(before) & set(behind):
            self.assertEqual(behind[user], moved.get(user, before[user]))
            self.assertEqual(user in moved, behind[user] != before[user])
            self.assertEqual(behind[user][0], before[user][0])
        self.assertTrue(set(moved) <= set(before))
        return behind

    def test_apart_and_never_refused_while_it_fits(self):
        for users, rates in MIXES:
            self.shared.begin()
            codes = {}
            for call in mixed_calls(99, users, rates, 300):
                if call[0] == 2:
                    answer = self.shared.close_user(call[1])
                elif call[0] == 1:
                    answer = self.shared.open_user(call[1], call[2])
                    taken = sum(2 ** (8 - level) for level, _ in codes.values())
                    fits = taken + call[2] <= 256
                    if call[1] < 256 and call[2] in RATES and call[1] not in codes:
                        self.assertEqual(answer[0] >= 0, fits, call)
                        self.assertEqual(answer == [-28], not fits, call)
                else:
                    continue
                codes = self.look_at(call, codes, answer)


if __name__ == "__main__":
    unittest.main()
