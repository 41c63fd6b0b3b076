"""Point 6: hear."""

import unittest

from tests.helper import (BEGIN, LINE, NO_RATES, NO_USERS, RATES, ZEROS, all_codes, ask, close_call, code_call,
                          grown_row, hear_call, hear_in_words, last, level_of, line_with, nearest, open_call,
                          say_call, size_of)

OPENS = [open_call(7, 2), open_call(8, 4), open_call(9, 128)]
CODES = {7: (7, 0), 8: (6, 1), 9: (1, 1)}
MIXED = [(place * 7919 + 13) % 2000001 - 1000000 for place in range(256)]


def heard_by_first(rate, line):
    """What is heard by code 0 of the rate's level: all plus."""
    return last(open_call(0, rate), hear_call(0, rate, line))


class Heard(unittest.TestCase):
    def test_as_many_numbers_as_rate_says(self):
        for rate in RATES:
            self.assertEqual(heard_by_first(rate, [12] * 256), [0] + [12] * rate)
            self.assertEqual(heard_by_first(rate, ZEROS), [0] + [0] * rate)

    def test_symbol_by_symbol(self):
        line = [10] * 64 + [20] * 64 + [-30] * 64 + [-40] * 64
        self.assertEqual(heard_by_first(4, line), [0, 10, 20, -30, -40])
        self.assertEqual(heard_by_first(2, line), [0, 15, -35])
        self.assertEqual(heard_by_first(1, line), [0, -10])

    def test_with_the_codes_signs(self):
        self.assertEqual(last(*OPENS, hear_call(9, 128, [5, 3] * 128)), [0] + [1] * 128)
        self.assertEqual(last(*OPENS, hear_call(8, 4, ([9] * 32 + [1] * 32) * 4)), [0, 4, 4, 4, 4])
        self.assertEqual(last(*OPENS, hear_call(7, 2, [1] * 128 + [-2] * 128)), [0, 1, -2])

    def test_each_code_of_each_level(self):
        for rate in RATES:
            opens = [open_call(user, rate) for user in range(size_of(rate))]
            for user in range(0, size_of(rate), 1 if rate > 4 else 5):
                sums = hear_in_words(MIXED, (level_of(rate), user))
                wanted = [nearest(number, size_of(rate)) for number in sums]
                self.assertEqual(last(*opens[:user + 1], hear_call(user, rate, MIXED)), [0] + wanted, (rate, user))

    def test_at_level_0_nothing_is_divided(self):
        self.assertEqual(heard_by_first(256, MIXED), [0] + MIXED)
        odd = [number - 128 for number in range(256)]
        self.assertEqual(heard_by_first(256, odd), [0] + odd)

    def test_a_line_at_its_ends(self):
        for rate in RATES:
            for number in (1000000, -1000000):
                self.assertEqual(heard_by_first(rate, [number] * 256), [0] + [number] * rate)

    def test_a_line_at_its_ends_with_the_codes_signs(self):
        for rate in RATES[:-1]:
            user = size_of(rate) - 1
            opens = [open_call(other, rate) for other in range(user + 1)]
            row = list(grown_row(level_of(rate), user)) * rate
            for number in (1000000, -1000000):
                line = [number * sign for sign in row]
                self.assertEqual(last(*opens, hear_call(user, rate, line)), [0] + [number] * rate)
                # All of one sign: half the signs are minus, so nothing is heard.
                self.assertEqual(last(*opens, hear_call(user, rate, [number] * 256)), [0] + [0] * rate)

    def test_the_line_that_is_handed_in_not_the_objects_own(self):
        calls = [*OPENS, say_call(7, [100, 200])]
        self.assertEqual(last(*calls, hear_call(7, 2, ZEROS)), [0, 0, 0])
        self.assertEqual(last(*calls, hear_call(7, 2, [3] * 256)), [0, 3, 3])

    def test_it_changes_nothing(self):
        calls = [*OPENS, say_call(7, [100, 200])]
        asked = [hear_call(7, 2, MIXED), hear_call(8, 4, MIXED), hear_call(9, 128, MIXED)]
        self.assertEqual(all_codes(*calls, *asked), CODES)
        self.assertEqual(last(*calls, *asked, LINE), last(*calls, LINE))
        self.assertEqual(last(*calls, *asked, say_call(7, [1, 1])), [-16])
        self.assertEqual(last(*OPENS, *asked, open_call(1, 1)), last(*OPENS, open_call(1, 1)))

    def test_heard_twice_is_the_same(self):
        told = ask(*OPENS, hear_call(8, 4, MIXED), hear_call(8, 4, MIXED))
        self.assertEqual(told[-1], told[-2])

    def test_by_the_code_that_a_moved_one_has_now(self):
        calls = [open_call(user, 64) for user in range(4)]
        calls += [close_call(1), close_call(3), open_call(7, 128)]
        self.assertEqual(last(*calls, hear_call(0, 64, [9, -9, 9, -9] * 64)), [0] + [9] * 64)
        self.assertEqual(last(*calls, hear_call(2, 64, [9, -9, 9, -9] * 64)), [0] + [0] * 64)


class ToTheNearest(unittest.TestCase):
    def test_written_out_at_level_1(self):
        pairs = ((0, 0), (1, 0), (2, 1), (3, 2), (4, 2), (5, 2), (6, 3), (7, 4), (9, 4), (11, 6),
                 (-1, 0), (-2, -1), (-3, -2), (-4, -2), (-5, -2), (-6, -3), (-7, -4), (-9, -4), (-11, -6))
        for number, wanted in pairs:
            self.assertEqual(heard_by_first(128, [number, 0] * 128), [0] + [wanted] * 128, number)

    def test_written_out_at_level_2(self):
        pairs = ((1, 0), (2, 0), (3, 1), (4, 1), (5, 1), (6, 2), (7, 2), (9, 2), (10, 2), (11, 3), (14, 4),
                 (-1, 0), (-2, 0), (-3, -1), (-5, -1), (-6, -2), (-7, -2), (-9, -2), (-10, -2), (-11, -3), (-14, -4))
        for number, wanted in pairs:
            self.assertEqual(heard_by_first(64, [0, 0, number, 0] * 64), [0] + [wanted] * 64, number)

    def test_written_out_at_level_8(self):
        pairs = ((127, 0), (128, 0), (129, 1), (383, 1), (384, 2), (385, 2), (640, 2), (641, 3),
                 (-127, 0), (-128, 0), (-129, -1), (-383, -1), (-384, -2), (-385, -2), (-640, -2), (-641, -3))
        for number, wanted in pairs:
            self.assertEqual(heard_by_first(1, line_with({200: number})), [0, wanted], number)

    def test_about_the_halves_at_each_level(self):
        for rate in RATES[:-1]:
            size = size_of(rate)
            sums = [whole * size + rest for whole in range(-5, 6)
                    for rest in (0, 1, size // 2 - 1, size // 2, size // 2 + 1, size - 1)]
            for first in range(0, len(sums), rate):
                part = sums[first:first + rate]
                line = line_with({symbol * size + size // 2: number for symbol, number in enumerate(part)})
                wanted = [nearest(number, size) for number in part] + [0] * (rate - len(part))
                self.assertEqual(heard_by_first(rate, line), [0] + wanted, rate)

    def test_the_halves_go_to_the_even_one_at_each_level(self):
        for rate in RATES[:-1]:
            size = size_of(rate)
            for whole in range(-4, 5):
                even = whole if whole % 2 == 0 else whole + 1
                line = line_with({0: whole * size + size // 2})
                self.assertEqual(heard_by_first(rate, line)[1], even, (rate, whole))

    def test_the_whole_sum_is_divided_not_each_number(self):
        # Each number alone would be rounded to 0.
        self.assertEqual(heard_by_first(64, [1, 1, 1, 0] * 64), [0] + [1] * 64)
        self.assertEqual(heard_by_first(64, [-1, -1, -1, 0] * 64), [0] + [-1] * 64)

    def test_at_each_place_of_a_symbol(self):
        for rate in (1, 2, 16, 64):
            for place in range(0, 256, 3):
                wanted = [0] * rate
                wanted[place // size_of(rate)] = 2
                line = line_with({place: size_of(rate) * 3 // 2})
                self.assertEqual(heard_by_first(rate, line), [0] + wanted, (rate, place))


class Refusals(unittest.TestCase):
    def assert_refused(self, number, hear):
        """The refusal, and that line, who has said, and the codes are as without it."""
        said = [*OPENS, say_call(7, [100, 200])]
        for calls in (OPENS, said):
            self.assertEqual(last(*calls, hear), [number])
            for behind in (LINE, say_call(7, [1, 1]), open_call(10, 1), close_call(7)):
                self.assertEqual(last(*calls, hear, behind), last(*calls, behind))
            self.assertEqual(all_codes(*calls, hear), CODES)

    def test_user_above_255(self):
        for user in NO_USERS:
            self.assert_refused(-22, hear_call(user, 2, ZEROS))

    def test_no_rate(self):
        for rate in NO_RATES:
            self.assert_refused(-22, hear_call(7, rate, ZEROS))

    def test_no_other_number_to_600_is_a_rate(self):
        none = [rate for rate in range(601) if last(hear_call(9, rate, ZEROS)) == [-22]]
        self.assertEqual(none, [rate for rate in range(601) if rate not in RATES])

    def test_a_number_of_line_too_far(self):
        for number in (1000001, -1000001, 2147483647, -2147483648):
            for place in (0, 1, 100, 127, 128, 254, 255):
                self.assert_refused(-22, hear_call(7, 2, line_with({place: number})))
            self.assert_refused(-22, hear_call(9, 128, [number] * 256))

    def test_a_number_of_line_at_its_ends(self):
        for number in (1000000, -1000000):
            for place in (0, 1, 100, 127, 128, 254, 255):
                wanted = [0, 0]
                # 1,000,000 divided by 128 is 7812 and a half, and 7812 is even.
                wanted[place // 128] = 7812 if number > 0 else -7812
                self.assertEqual(last(*OPENS, hear_call(7, 2, line_with({place: number}))), [0] + wanted)
                self.assertEqual(heard_by_first(256, line_with({place: number})), [0] + line_with({place: number}))

    def test_user_has_no_code(self):
        for user in (0, 6, 10, 255):
            self.assert_refused(-2, hear_call(user, 2, ZEROS))
        for rate in RATES:
            self.assertEqual(ask(hear_call(0, rate, ZEROS)), [[-2]])
        self.assertEqual(last(open_call(0, 1), close_call(0), hear_call(0, 1, ZEROS)), [-2])
        self.assertEqual(last(open_call(0, 1), BEGIN, hear_call(0, 1, ZEROS)), [-2])

    def test_another_rate(self):
        for rate in RATES:
            if rate != 2:
                self.assert_refused(-33, hear_call(7, rate, ZEROS))


class TheFirstNamed(unittest.TestCase):
    too_far = line_with({255: 1000001})

    def test_22_for_the_user_ahead_of_2(self):
        self.assertEqual(ask(hear_call(256, 1, ZEROS)), [[-22]])
        self.assertEqual(last(*OPENS, hear_call(256, 3, self.too_far)), [-22])

    def test_22_for_the_rate_ahead_of_2_and_33(self):
        self.assertEqual(ask(hear_call(0, 3, ZEROS)), [[-22]])
        self.assertEqual(last(*OPENS, hear_call(7, 3, ZEROS)), [-22])

    def test_22_for_the_line_ahead_of_2_and_33(self):
        self.assertEqual(ask(hear_call(0, 1, self.too_far)), [[-22]])
        self.assertEqual(last(*OPENS, hear_call(0, 2, self.too_far)), [-22])
        self.assertEqual(last(*OPENS, hear_call(7, 4, self.too_far)), [-22])

    def test_2_is_answered_whatever_the_rate(self):
        for rate in RATES:
            self.assertEqual(last(*OPENS, hear_call(0, rate, ZEROS)), [-2])


class WhenSomebodyHasSaid(unittest.TestCase):
    """There is no -16 for hear: who has said hears, and so do others."""

    line = [6, 2] * 128

    def test_it_is_heard_all_the_same(self):
        for behind in ([say_call(7, [1, 2])], [say_call(7, [1, 2]), say_call(9, [1] * 128)],
                       [say_call(7, [1, 2]), LINE]):
            calls = [*OPENS, *behind]
            self.assertEqual(last(*calls, hear_call(7, 2, self.line)), [0, 4, 4])
            self.assertEqual(last(*calls, hear_call(8, 4, self.line)), [0] * 5)
            self.assertEqual(last(*calls, hear_call(9, 128, self.line)), [0] + [2] * 128)

    def test_begun_again(self):
        calls = [*OPENS, say_call(7, [1, 2]), BEGIN]
        self.assertEqual(last(*calls, hear_call(7, 2, self.line)), [-2])
        self.assertEqual(last(*calls, code_call(7)), [-2])
        self.assertEqual(last(*calls, open_call(9, 128), hear_call(9, 128, self.line)), [0] + [4] * 128)


if __name__ == "__main__":
    unittest.main()
