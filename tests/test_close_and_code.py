"""Point 3: close and code."""

import unittest

from tests.helper import NO_USERS, RATES, all_codes, ask, close_call, code_call, last, open_call

OPENS = [open_call(0, 64), open_call(255, 2), open_call(9, 128)]
CODES = {0: (2, 0), 255: (7, 32), 9: (1, 1)}


class Close(unittest.TestCase):
    def test_has_no_code_any_more(self):
        for user in CODES:
            left = {other: code for other, code in CODES.items() if other != user}
            self.assertEqual(last(*OPENS, close_call(user)), [0])
            self.assertEqual(all_codes(*OPENS, close_call(user)), left)

    def test_each_rate(self):
        for rate in RATES:
            self.assertEqual(ask(open_call(8, rate), close_call(8), code_call(8), close_call(8), open_call(8, rate)),
                             [[0], [0], [-2], [-2], [0]])

    def test_user_above_255(self):
        for user in NO_USERS:
            self.assertEqual(last(*OPENS, close_call(user)), [-22], user)
            self.assertEqual(all_codes(*OPENS, close_call(user)), CODES)

    def test_user_has_no_code(self):
        for user in (1, 8, 10, 254):
            self.assertEqual(last(*OPENS, close_call(user)), [-2], user)
            self.assertEqual(all_codes(*OPENS, close_call(user)), CODES)
        self.assertEqual(ask(close_call(255)), [[-2]])

    def test_closed_twice(self):
        self.assertEqual(last(*OPENS, close_call(0), close_call(0)), [-2])

    def test_a_refused_open_gives_nothing_to_close(self):
        self.assertEqual(last(*OPENS, open_call(3, 128), close_call(3)), [-2])
        self.assertEqual(last(open_call(3, 5), close_call(3)), [-2])

    def test_a_moved_one_is_closed(self):
        calls = [open_call(user, 64) for user in range(4)]
        calls += [close_call(1), close_call(3), open_call(7, 128), close_call(2)]
        self.assertEqual(last(*calls), [0])
        self.assertEqual(all_codes(*calls), {7: (1, 0), 0: (2, 2)})
        self.assertEqual(last(*calls, open_call(8, 64)), [3])


class Code(unittest.TestCase):
    def test_level_and_k(self):
        for user, (level, k) in CODES.items():
            self.assertEqual(last(*OPENS, code_call(user)), [0, level, k])

    def test_each_level_at_its_last_k(self):
        for level, rate in enumerate(reversed(RATES)):
            opens = [open_call(user, rate) for user in range(256 // rate)]
            user = 256 // rate - 1
            self.assertEqual(last(*opens, code_call(user)), [0, level, user])

    def test_user_above_255(self):
        for user in NO_USERS:
            self.assertEqual(last(*OPENS, code_call(user)), [-22], user)

    def test_user_has_no_code(self):
        for user in (1, 8, 10, 254):
            self.assertEqual(last(*OPENS, code_call(user)), [-2], user)
        self.assertEqual(ask(code_call(255), code_call(0)), [[-2], [-2]])

    def test_it_changes_nothing(self):
        asked = [code_call(user) for user in (0, 1, 9, 255, 256)]
        self.assertEqual(all_codes(*OPENS, *asked), CODES)


if __name__ == "__main__":
    unittest.main()
