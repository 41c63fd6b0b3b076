"""Point 5: line, and that it makes an end of what was said."""

import unittest

from codeline.shared_line import SharedLine
from tests.helper import (BEGIN, LINE, RATES, ZEROS, all_codes, ask, close_call, code_call, hear_call, last,
                          lay_in_words, open_call, say_call)

NOTHING = [0] + ZEROS
OPENS = [open_call(0, 64), open_call(255, 2), open_call(9, 128)]
CODES = {0: (2, 0), 255: (7, 32), 9: (1, 1)}
SAYS = [say_call(0, [number - 32 for number in range(64)]), say_call(255, [2047, -2047]), say_call(9, [-1] * 128)]


class TellLine(unittest.TestCase):
    def test_nobody_has_said_anything(self):
        self.assertEqual(ask(LINE), [NOTHING])
        self.assertEqual(last(BEGIN, LINE), NOTHING)
        self.assertEqual(last(*OPENS, LINE), NOTHING)

    def test_how_many_had_said_something(self):
        for count in range(4):
            self.assertEqual(last(*OPENS, *SAYS[:count], LINE)[0], count)

    def test_256_numbers_behind_it(self):
        for rate in RATES:
            self.assertEqual(last(open_call(3, rate), say_call(3, [11] * rate), LINE), [1] + [11] * 256)

    def test_who_said_0s_counts(self):
        self.assertEqual(last(*OPENS, say_call(0, [0] * 64), say_call(255, [0, 0]), LINE), [2] + ZEROS)

    def test_sums_to_0_count_too(self):
        # The two codes of level 1 with one number: at each second place they take each other away.
        opens = [open_call(0, 128), open_call(1, 128)]
        self.assertEqual(last(*opens, say_call(0, [6] * 128), say_call(1, [6] * 128), LINE), [2] + [12, 0] * 128)

    def test_what_was_laid(self):
        line = ZEROS
        for say in SAYS:
            line = lay_in_words(line, CODES[say[1]], say[4:])
        self.assertEqual(last(*OPENS, *SAYS, LINE), [3] + line)

    def test_two_lines_one_behind_the_other(self):
        told = ask(*OPENS, *SAYS, LINE, LINE)
        self.assertEqual(told[-2][0], 3)
        self.assertEqual(told[-1], NOTHING)
        self.assertEqual(ask(LINE, LINE, LINE), [NOTHING] * 3)

    def test_all_can_say_again_and_from_0(self):
        told = ask(*OPENS, *SAYS, LINE, *SAYS, LINE)
        self.assertEqual(told[-4:-1], [[0]] * 3)
        self.assertEqual(told[-1], told[-5])
        self.assertEqual(last(*OPENS, *SAYS, LINE, SAYS[1], LINE), last(*OPENS, SAYS[1], LINE))

    def test_codes_stay(self):
        self.assertEqual(all_codes(*OPENS, *SAYS, LINE), CODES)
        self.assertEqual(all_codes(*OPENS, LINE), CODES)

    def test_begun_again_it_is_all_0(self):
        self.assertEqual(last(*OPENS, *SAYS, BEGIN, LINE), NOTHING)

    def test_what_does_not_change_it(self):
        between = [code_call(0), hear_call(0, 64, [1] * 256), close_call(0), open_call(1, 1), say_call(0, [5] * 64)]
        self.assertEqual(last(*OPENS, *SAYS, *between, LINE), last(*OPENS, *SAYS, LINE))

    def test_opened_behind_line(self):
        self.assertEqual(ask(*OPENS, *SAYS, LINE, close_call(9), open_call(9, 32), say_call(9, [1] * 32), LINE)[-4:-1],
                         [[0], [3], [0]])


class ManyOfRate1(unittest.TestCase):
    def test_143_of_256_say_in_400_calls(self):
        opens = [open_call(user, 1) for user in range(256)]
        says = [say_call(user, [2047 - user]) for user in range(143)]
        line = ZEROS
        for user in range(143):
            line = lay_in_words(line, (8, user), [2047 - user])
        told = ask(*opens, *says, LINE)
        self.assertEqual(len(told), 400)
        self.assertEqual(told[256:], [[0]] * 143 + [[143] + line])

    def test_256_say_each_its_own(self):
        # 256 opens and 256 says are more calls than a list has, so the object itself is asked.
        shared = SharedLine()
        line = ZEROS
        for user in range(256):
            self.assertEqual(shared.open_user(user, 1), [user])
        for user in range(256):
            said = [(user * 577) % 4095 - 2047]
            self.assertEqual(shared.say(user, 1, said), [0])
            line = lay_in_words(line, (8, user), said)
        told = shared.tell_line()
        self.assertEqual(told, [256] + line)
        for user in range(256):
            self.assertEqual(shared.hear(user, 1, told[1:]), [0, (user * 577) % 4095 - 2047])
        self.assertEqual(shared.tell_line(), NOTHING)

    def test_256_say_2047(self):
        for number in (2047, -2047):
            shared = SharedLine()
            for user in range(256):
                shared.open_user(user, 1)
            for user in range(256):
                self.assertEqual(shared.say(user, 1, [number]), [0])
            told = shared.tell_line()
            self.assertEqual(told, [256, 256 * number] + [0] * 255)
            for user in range(256):
                self.assertEqual(shared.hear(user, 1, told[1:]), [0, number])


if __name__ == "__main__":
    unittest.main()
