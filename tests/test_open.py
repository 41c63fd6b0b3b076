"""Point 2: open."""

import unittest

from tests.helper import (NO_RATES, NO_USERS, RATES, all_codes, ask, close_call,
                          code_call, last, open_call)


class Refusals(unittest.TestCase):
    def test_user_above_255(self):
        for user in NO_USERS:
            self.assertEqual(ask(open_call(user, 1)), [[-22]], user)

    def test_users_to_255(self):
        for user in (0, 1, 254, 255):
            self.assertEqual(ask(open_call(user, 1), code_call(user)), [[0], [0, 8, 0]], user)

    def test_no_rate(self):
        for rate in NO_RATES:
            self.assertEqual(ask(open_call(0, rate)), [[-22]], rate)

    def test_no_other_number_to_600_is_a_rate(self):
        taken = [rate for rate in range(601) if ask(open_call(9, rate)) == [[0]]]
        self.assertEqual(taken, list(RATES))

    def test_user_has_a_code(self):
        for rate in RATES:
            self.assertEqual(last(open_call(5, 4), open_call(5, rate)), [-17], rate)

    def test_more_than_256_together(self):
        self.assertEqual(last(open_call(0, 256), open_call(1, 1)), [-28])
        self.assertEqual(last(open_call(0, 1), open_call(1, 256)), [-28])
        self.assertEqual(last(open_call(0, 128), open_call(1, 64), open_call(2, 128)), [-28])

    def test_just_256_together(self):
        self.assertEqual(last(open_call(0, 128), open_call(1, 64), open_call(2, 64)), [3])
        self.assertEqual(last(open_call(0, 128), open_call(1, 128)), [1])

    def test_a_closed_one_counts_no_more(self):
        self.assertEqual(last(open_call(0, 256), close_call(0), open_call(1, 256)), [0])

    def test_22_is_named_ahead_of_17_and_28(self):
        self.assertEqual(last(open_call(5, 256), open_call(5, 3)), [-22])
        self.assertEqual(last(open_call(5, 256), open_call(5, 512)), [-22])
        self.assertEqual(last(open_call(5, 256), open_call(256, 1)), [-22])
        self.assertEqual(last(open_call(256, 0)), [-22])

    def test_17_is_named_ahead_of_28(self):
        self.assertEqual(last(open_call(5, 256), open_call(5, 1)), [-17])
        self.assertEqual(last(open_call(5, 128), open_call(6, 128), open_call(5, 256)), [-17])

    def test_nothing_changes_behind_a_refusal(self):
        opens = [open_call(1, 1), open_call(2, 128), open_call(3, 64)]
        before = all_codes(*opens)
        refused = ((256, 1, -22), (9, 0, -22), (9, 3, -22), (1, 512, -22), (1, 64, -17), (9, 64, -28),
                   (9, 256, -28))
        for user, rate, number in refused:
            self.assertEqual(last(*opens, open_call(user, rate)), [number])
            self.assertEqual(all_codes(*opens, open_call(user, rate)), before)
            # A refused rate must not count, nor may it take a code.
            self.assertEqual(last(*opens, open_call(user, rate), open_call(10, 32)), [1])


class LeastK(unittest.TestCase):
    def test_each_rate_alone(self):
        for level, rate in enumerate(reversed(RATES)):
            self.assertEqual(ask(open_call(77, rate), code_call(77)), [[0], [0, level, 0]])

    def test_256_alone(self):
        self.assertEqual(ask(open_call(0, 256), code_call(0), open_call(1, 1), close_call(0), code_call(0)),
                         [[0], [0, 0, 0], [-28], [0], [-2]])

    def test_256_users_of_rate_1(self):
        opens = [open_call(user, 1) for user in range(256)]
        self.assertEqual(ask(*opens), [[k] for k in range(256)])
        self.assertEqual(all_codes(*opens), {user: (8, user) for user in range(256)})
        self.assertEqual(last(*opens, open_call(255, 1)), [-17])

    def test_256_users_from_the_last(self):
        opens = [open_call(255 - k, 1) for k in range(256)]
        self.assertEqual(ask(*opens), [[k] for k in range(256)])

    def test_each_rate_is_filled_by_rising_ks(self):
        for rate in RATES:
            count = 256 // rate
            self.assertEqual(ask(*[open_call(user, rate) for user in range(count)]), [[k] for k in range(count)])

    def test_what_grows_from_a_taken_code_is_not_free(self):
        self.assertEqual(ask(open_call(0, 128), open_call(1, 1), open_call(2, 2), open_call(3, 64)),
                         [[0], [128], [65], [3]])

    def test_what_is_above_a_taken_code_is_not_free(self):
        self.assertEqual(ask(open_call(0, 1), open_call(1, 128), open_call(2, 64), open_call(3, 1)),
                         [[0], [1], [1], [1]])

    def test_the_gap_of_a_closed_one_is_taken_first(self):
        opens = [open_call(user, 32) for user in range(8)]
        self.assertEqual(last(*opens, close_call(5), close_call(2), open_call(9, 32)), [2])
        self.assertEqual(last(*opens, close_call(5), close_call(2), open_call(9, 16), open_call(10, 32)), [5])

    def test_a_close_makes_room_without_moving(self):
        opens = [open_call(user, 64) for user in range(4)]
        calls = opens + [close_call(2), close_call(3), open_call(9, 128)]
        self.assertEqual(last(*calls), [1])
        self.assertEqual(all_codes(*calls), {0: (2, 0), 1: (2, 1), 9: (1, 1)})


class CodesAnew(unittest.TestCase):
    def test_an_open_that_moves_all(self):
        calls = [open_call(user, 64) for user in range(4)]
        calls += [close_call(1), close_call(3), open_call(7, 128)]
        self.assertEqual(last(*calls), [0, 0, 2, 2, 2, 2, 3])
        self.assertEqual(all_codes(*calls), {7: (1, 0), 0: (2, 2), 2: (2, 3)})

    def test_who_keeps_its_code_is_not_told_of(self):
        calls = [open_call(user, 64) for user in range(4)]
        calls += [close_call(0), close_call(2), open_call(7, 128)]
        self.assertEqual(last(*calls), [0, 1, 2, 2])
        self.assertEqual(all_codes(*calls), {7: (1, 0), 1: (2, 2), 3: (2, 3)})

    def test_like_rates_by_the_lesser_user_and_the_new_one_among_them(self):
        calls = [open_call(30, 64), open_call(7, 1), open_call(10, 64), open_call(60, 32), open_call(61, 32),
                 close_call(60)]
        self.assertEqual(all_codes(*calls), {30: (2, 0), 7: (8, 64), 10: (2, 2), 61: (3, 6)})
        calls.append(open_call(20, 64))
        self.assertEqual(last(*calls), [1, 7, 8, 224, 10, 2, 0, 30, 2, 2])
        self.assertEqual(all_codes(*calls), {10: (2, 0), 20: (2, 1), 30: (2, 2), 61: (3, 6), 7: (8, 224)})

    def test_the_greatest_rate_first_and_told_by_rising_users(self):
        # 20 and 4 fill the first two places, so that 90 stands at the second half's beginning.
        calls = [open_call(20, 1), open_call(30, 2), open_call(10, 4), open_call(40, 8), open_call(5, 16),
                 open_call(50, 32), open_call(1, 64), open_call(4, 1), open_call(90, 1), close_call(20),
                 close_call(4)]
        self.assertEqual(all_codes(*calls),
                         {30: (7, 1), 10: (6, 1), 40: (5, 1), 5: (4, 1), 50: (3, 1), 1: (2, 1), 90: (8, 128)})
        calls.append(open_call(70, 128))
        self.assertEqual(last(*calls), [0, 1, 2, 2, 5, 4, 14, 10, 6, 62, 30, 7, 126, 40, 5, 30, 50, 3, 6,
                                        90, 8, 254])
        self.assertEqual(all_codes(*calls),
                         {70: (1, 0), 1: (2, 2), 50: (3, 6), 5: (4, 14), 40: (5, 30), 10: (6, 62), 30: (7, 126),
                          90: (8, 254)})

    def test_the_new_one_may_stand_behind_all_others(self):
        calls = [open_call(user, 32) for user in range(8)]
        calls += [close_call(1), close_call(4), open_call(8, 16), close_call(6), open_call(9, 32),
                  open_call(10, 32), close_call(10), close_call(9), open_call(11, 1), close_call(8)]
        before = {0: (3, 0), 2: (3, 2), 3: (3, 3), 5: (3, 5), 7: (3, 7), 11: (8, 48)}
        self.assertEqual(all_codes(*calls), before)
        calls += [open_call(12, 16), open_call(13, 32), open_call(14, 16), close_call(12)]
        before.update({13: (3, 4), 14: (4, 12)})
        self.assertEqual(all_codes(*calls), before)
        calls.append(open_call(255, 32))
        self.assertEqual(last(*calls), [6, 2, 3, 1, 3, 3, 2, 5, 3, 3, 7, 3, 4, 11, 8, 240, 13, 3, 5, 14, 4, 14])

    def test_codes_stay_behind_when_nobody_must_move(self):
        calls = [open_call(0, 64), open_call(1, 64), open_call(2, 64), close_call(0)]
        self.assertEqual(last(*calls, open_call(3, 64)), [0])
        self.assertEqual(all_codes(*calls, open_call(3, 64)), {1: (2, 1), 2: (2, 2), 3: (2, 0)})

    def test_256_users_less_two_apart_and_one_of_rate_2(self):
        opens = [open_call(user, 1) for user in range(256)]
        calls = opens + [close_call(3), close_call(4), open_call(3, 2)]
        self.assertEqual(last(*calls), [0, 0, 8, 2, 1, 8, 3, 2, 8, 4])
        codes = {3: (7, 0), 0: (8, 2), 1: (8, 3), 2: (8, 4)}
        codes.update({user: (8, user) for user in range(5, 256)})
        self.assertEqual(all_codes(*calls), codes)


if __name__ == "__main__":
    unittest.main()
