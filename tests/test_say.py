"""Point 4: say."""

import unittest

from tests.helper import (BEGIN, LINE, NO_RATES, NO_USERS, RATES, ZEROS, all_codes, ask, close_call, code_call,
                          grown_row, hear_call, last, level_of, line_with, open_call, say_call, size_of)

# User 7 has rate 2 (level 7, k 0), user 8 rate 4 (level 6, k 1), user 9 rate 128 (level 1, k 1).
OPENS = [open_call(7, 2), open_call(8, 4), open_call(9, 128)]
CODES = {7: (7, 0), 8: (6, 1), 9: (1, 1)}


class Laid(unittest.TestCase):
    def test_answers_0(self):
        self.assertEqual(last(*OPENS, say_call(7, [5, -6])), [0])
        self.assertEqual(last(*OPENS, say_call(9, [0] * 128)), [0])

    def test_a_row_of_plus_symbol_by_symbol(self):
        self.assertEqual(last(*OPENS, say_call(7, [5, -6]), LINE), [1] + [5] * 128 + [-6] * 128)

    def test_each_symbol_with_the_codes_signs(self):
        half = [3] * 32 + [-3] * 32
        calls = OPENS + [say_call(8, [3, -3, 0, 2047]), LINE]
        self.assertEqual(last(*calls), [1] + half + [-number for number in half] + [0] * 64
                         + [2047] * 32 + [-2047] * 32)

    def test_at_level_1_plus_then_minus(self):
        a = list(range(-64, 64))
        wanted = [number for said in a for number in (said, -said)]
        self.assertEqual(last(*OPENS, say_call(9, a), LINE), [1] + wanted)

    def test_rate_256_alone(self):
        a = [number * 16 - 2040 for number in range(256)]
        self.assertEqual(ask(open_call(200, 256), say_call(200, a), LINE), [[0], [0], [1] + a])

    def test_the_four_codes_of_level_2_as_they_grow(self):
        rows = ([1, 1, 1, 1], [1, 1, -1, -1], [1, -1, 1, -1], [1, -1, -1, 1])
        opens = [open_call(user, 64) for user in range(4)]
        for user, row in enumerate(rows):
            a = [user + 10 * symbol for symbol in range(64)]
            wanted = [said * sign for said in a for sign in row]
            self.assertEqual(last(*opens, say_call(user, a), LINE), [1] + wanted)

    def test_the_eight_codes_of_level_3_as_they_grow(self):
        rows = ("++++++++", "++++----", "++--++--", "++----++", "+-+-+-+-", "+-+--+-+", "+--++--+", "+--+-++-")
        opens = [open_call(user, 32) for user in range(8)]
        for user, row in enumerate(rows):
            wanted = [7 if sign == "+" else -7 for sign in row] * 32
            self.assertEqual(last(*opens, say_call(user, [7] * 32), LINE), [1] + wanted)

    def test_each_code_of_each_level(self):
        for rate in RATES:
            count = size_of(rate)
            opens = [open_call(user, rate) for user in range(count)]
            a = [symbol + 1 for symbol in range(rate)]
            for user in range(count):
                row = grown_row(level_of(rate), user)
                wanted = [said * sign for said in a for sign in row]
                self.assertEqual(last(*opens[:user + 1], say_call(user, a), LINE), [1] + wanted, (rate, user))

    def test_all_that_is_said_lies_over_each_other(self):
        says = [say_call(7, [5, -6]), say_call(8, [1, 2, 3, 4]), say_call(9, [100] * 128)]
        alone = [last(*OPENS, say, LINE)[1:] for say in says]
        together = [sum(numbers) for numbers in zip(*alone)]
        self.assertEqual(last(*OPENS, *says, LINE), [3] + together)
        self.assertEqual(last(*OPENS, *reversed(says), LINE), [3] + together)

    def test_users_0_and_255(self):
        opens = [open_call(0, 128), open_call(255, 128)]
        self.assertEqual(last(*opens, say_call(0, [1] * 128), say_call(255, [2] * 128), LINE),
                         [2] + [3, -1] * 128)

    def test_by_the_code_that_a_moved_one_has_now(self):
        calls = [open_call(user, 64) for user in range(4)]
        calls += [close_call(1), close_call(3), open_call(7, 128), say_call(0, [9] * 64), LINE]
        self.assertEqual(ask(*calls)[-3:], [[0, 0, 2, 2, 2, 2, 3], [0], [1] + [9, -9, 9, -9] * 64])

    def test_the_ends_of_what_may_be_said(self):
        for number in (2047, -2047, 0, 1, -1):
            self.assertEqual(ask(open_call(1, 1), say_call(1, [number]), LINE)[1:], [[0], [1] + [number] * 256])

    def test_all_saying_2047(self):
        opens = [open_call(user, 64) for user in range(4)]
        says = [say_call(user, [2047] * 64) for user in range(4)]
        self.assertEqual(last(*opens, *says, LINE), [4] + [8188, 0, 0, 0] * 64)

    def test_it_changes_no_code(self):
        self.assertEqual(all_codes(*OPENS, say_call(7, [5, -6])), CODES)


class Refusals(unittest.TestCase):
    def assert_refused(self, number, say, before=()):
        """The refusal, and that line, who has said, and the codes are as without it."""
        calls = [*OPENS, *before]
        self.assertEqual(last(*calls, say), [number], say)
        self.assertEqual(all_codes(*calls, say), CODES)
        self.assertEqual(last(*calls, say, LINE), last(*calls, LINE))
        behind = [say_call(7, [1, 1]), say_call(8, [1, 1, 1, 1]), say_call(9, [1] * 128),
                  close_call(7), open_call(10, 1), LINE, close_call(7)]
        self.assertEqual(ask(*calls, say, *behind)[-7:], ask(*calls, *behind)[-7:])
        # With nobody else's say behind it: a refused one has not said anything.
        self.assertEqual(last(*calls, say, open_call(10, 1)), last(*calls, open_call(10, 1)))
        self.assertEqual(last(*calls, say, close_call(7)), last(*calls, close_call(7)))

    def test_user_above_255(self):
        for user in NO_USERS:
            self.assert_refused(-22, say_call(user, [1, 1]))

    def test_no_rate(self):
        for rate in NO_RATES:
            self.assert_refused(-22, say_call(7, [], rate=rate))

    def test_no_other_number_to_600_is_a_rate(self):
        none = [rate for rate in range(601)
                if last(say_call(9, [0] * rate if rate in RATES else [], rate=rate)) == [-22]]
        self.assertEqual(none, [rate for rate in range(601) if rate not in RATES])

    def test_user_has_no_code(self):
        for user in (0, 6, 10, 255):
            for rate in RATES:
                self.assert_refused(-2, say_call(user, [1] * rate))
        self.assertEqual(ask(say_call(0, [1])), [[-2]])
        self.assertEqual(last(open_call(0, 1), close_call(0), say_call(0, [1])), [-2])
        self.assertEqual(last(open_call(0, 1), BEGIN, say_call(0, [1])), [-2])

    def test_another_rate(self):
        for rate in RATES:
            if rate != 2:
                self.assert_refused(-33, say_call(7, [1] * rate))

    def test_it_has_said_something(self):
        self.assert_refused(-16, say_call(7, [3, 4]), [say_call(7, [1, 2])])
        self.assert_refused(-16, say_call(9, [3] * 128), [say_call(7, [1, 2]), say_call(9, [0] * 128)])

    def test_it_has_said_0s(self):
        self.assert_refused(-16, say_call(7, [3, 4]), [say_call(7, [0, 0])])

    def test_a_number_too_far(self):
        for number in (2048, -2048, 2049, -2049, 4095, 32767, -32768):
            for place in range(4):
                a = [2047, -2047, 0, 5]
                a[place] = number
                self.assert_refused(-34, say_call(8, a))

    def test_a_number_too_far_in_long_rows(self):
        for number in (2048, -2048, 32767, -32768):
            for place in (0, 1, 64, 126, 127):
                a = [1] * 128
                a[place] = number
                self.assert_refused(-34, say_call(9, a))
            self.assertEqual(ask(open_call(1, 1), say_call(1, [number]), LINE)[1:], [[-34], [0] + ZEROS])
            self.assertEqual(ask(open_call(1, 256), say_call(1, ZEROS[1:] + [number]), LINE)[1:],
                             [[-34], [0] + ZEROS])

    def test_the_ends_are_not_too_far(self):
        for place in range(4):
            for number in (2047, -2047):
                a = [0, 0, 0, 0]
                a[place] = number
                self.assertEqual(last(*OPENS, say_call(8, a)), [0])


class TheFirstNamed(unittest.TestCase):
    """Where several refusals fit, the one that the document names first."""

    said = [*OPENS, say_call(7, [1, 2])]

    def test_22_for_the_user_ahead_of_all(self):
        self.assertEqual(last(*self.said, say_call(256, [], rate=3)), [-22])
        self.assertEqual(last(*self.said, say_call(256, [2048])), [-22])
        self.assertEqual(last(say_call(256, [1])), [-22])

    def test_22_for_the_rate_ahead_of_all_behind_it(self):
        self.assertEqual(last(*self.said, say_call(0, [], rate=3)), [-22])
        self.assertEqual(last(*self.said, say_call(7, [], rate=0)), [-22])
        self.assertEqual(last(*self.said, say_call(9, [], rate=512)), [-22])

    def test_2_ahead_of_34(self):
        self.assertEqual(last(*self.said, say_call(0, [2048])), [-2])
        self.assertEqual(last(*OPENS, say_call(255, [-32768, 32767])), [-2])

    def test_33_ahead_of_16_and_34(self):
        self.assertEqual(last(*self.said, say_call(7, [1])), [-33])
        self.assertEqual(last(*self.said, say_call(7, [2048])), [-33])
        self.assertEqual(last(*OPENS, say_call(7, [2048])), [-33])

    def test_16_ahead_of_34(self):
        self.assertEqual(last(*self.said, say_call(7, [2048, 0])), [-16])


class WhenOthersHaveSaid(unittest.TestCase):
    said = [*OPENS, say_call(7, [1, 2])]

    def test_another_one_says(self):
        self.assertEqual(last(*self.said, say_call(8, [1, 1, 1, 1])), [0])
        self.assertEqual(last(*self.said, say_call(8, [1, 1, 1, 2048])), [-34])
        self.assertEqual(last(*self.said, say_call(8, [1, 1])), [-33])
        self.assertEqual(last(*self.said, say_call(0, [1])), [-2])

    def test_a_refused_one_may_say_it_right(self):
        self.assertEqual(ask(*OPENS, say_call(7, [1, 2048]), say_call(7, [1]), say_call(7, [1, 2047]), LINE)[3:],
                         [[-34], [-33], [0], [1] + [1] * 128 + [2047] * 128])

    def test_again_behind_line(self):
        self.assertEqual(ask(*self.said, LINE, say_call(7, [3, 4]), LINE)[-2:],
                         [[0], [1] + [3] * 128 + [4] * 128])

    def test_again_behind_begin(self):
        self.assertEqual(ask(*self.said, BEGIN, open_call(7, 2), say_call(7, [3, 4]), LINE)[-3:],
                         [[0], [0], [1] + [3] * 128 + [4] * 128])

    def test_code_and_hear_are_no_say(self):
        calls = [*OPENS, code_call(7), hear_call(7, 2, line_with({0: 999})), say_call(7, [3, 4]), LINE]
        self.assertEqual(ask(*calls)[-2:], [[0], [1] + [3] * 128 + [4] * 128])


if __name__ == "__main__":
    unittest.main()
