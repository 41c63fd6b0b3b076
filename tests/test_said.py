"""Points 2 and 3 when somebody has said something: -16 of open and close, and its end by line and begin."""

import unittest

from tests.helper import (BEGIN, LINE, ZEROS, all_codes, ask, close_call, code_call, hear_call, last, open_call,
                          say_call)

OPENS = [open_call(3, 128), open_call(4, 64)]
CODES = {3: (1, 0), 4: (2, 2)}
SAID = [*OPENS, say_call(3, [0] * 127 + [1])]


class Open(unittest.TestCase):
    def test_refused_and_nothing_changes(self):
        for user, rate in ((5, 64), (5, 1), (0, 32), (255, 2)):
            self.assertEqual(last(*OPENS, open_call(user, rate))[0] >= 0, True)
            self.assertEqual(last(*SAID, open_call(user, rate)), [-16])
            self.assertEqual(all_codes(*SAID, open_call(user, rate)), CODES)
            self.assertEqual(last(*SAID, open_call(user, rate), LINE), last(*SAID, LINE))

    def test_refused_though_others_would_be_moved(self):
        calls = [open_call(user, 64) for user in range(4)] + [close_call(1), close_call(3)]
        said = [*calls, say_call(0, [1] * 64)]
        self.assertEqual(last(*said, open_call(7, 128)), [-16])
        self.assertEqual(all_codes(*said, open_call(7, 128)), {0: (2, 0), 2: (2, 2)})
        self.assertEqual(last(*said, LINE, open_call(7, 128)), [0, 0, 2, 2, 2, 2, 3])

    def test_22_is_named_ahead_of_16(self):
        self.assertEqual(last(*SAID, open_call(256, 1)), [-22])
        self.assertEqual(last(*SAID, open_call(5, 3)), [-22])
        self.assertEqual(last(*SAID, open_call(3, 0)), [-22])

    def test_16_is_named_ahead_of_17_and_28(self):
        self.assertEqual(last(*OPENS, open_call(3, 128)), [-17])
        self.assertEqual(last(*SAID, open_call(3, 128)), [-16])
        self.assertEqual(last(*SAID, open_call(4, 1)), [-16])
        self.assertEqual(last(*OPENS, open_call(5, 128)), [-28])
        self.assertEqual(last(*SAID, open_call(5, 128)), [-16])


class Close(unittest.TestCase):
    def test_refused_and_nothing_changes(self):
        for user in (3, 4):
            self.assertEqual(last(*OPENS, close_call(user)), [0])
            self.assertEqual(last(*SAID, close_call(user)), [-16])
            self.assertEqual(all_codes(*SAID, close_call(user)), CODES)
            self.assertEqual(last(*SAID, close_call(user), LINE), last(*SAID, LINE))

    def test_22_is_named_ahead_of_16(self):
        self.assertEqual(last(*SAID, close_call(256)), [-22])
        self.assertEqual(last(*SAID, close_call(4294967295)), [-22])

    def test_16_is_named_ahead_of_2(self):
        self.assertEqual(last(*OPENS, close_call(5)), [-2])
        self.assertEqual(last(*SAID, close_call(5)), [-16])


class WhoCounts(unittest.TestCase):
    def test_user_0_is_somebody_too(self):
        calls = [open_call(0, 1), say_call(0, [1])]
        self.assertEqual(last(*calls, open_call(4, 1)), [-16])
        self.assertEqual(last(*calls, close_call(0)), [-16])

    def test_who_said_0s_has_said_something(self):
        calls = [*OPENS, say_call(4, [0] * 64)]
        self.assertEqual(last(*calls, open_call(5, 1)), [-16])
        self.assertEqual(last(*calls, close_call(3)), [-16])

    def test_who_is_refused_has_not_said_anything(self):
        refused = (say_call(256, [1]), say_call(3, [], rate=3), say_call(5, [1]), say_call(3, [1]),
                   say_call(3, [2048] * 128))
        told = ask(*OPENS, *refused, open_call(5, 64), close_call(3), LINE)
        self.assertEqual(told[2:], [[-22], [-22], [-2], [-33], [-34], [3], [0], [0] + ZEROS])

    def test_code_hear_and_other_says_go_on(self):
        self.assertEqual(last(*SAID, code_call(3)), [0, 1, 0])
        self.assertEqual(last(*SAID, code_call(4)), [0, 2, 2])
        self.assertEqual(last(*SAID, code_call(5)), [-2])
        self.assertEqual(last(*SAID, code_call(256)), [-22])
        self.assertEqual(last(*SAID, say_call(4, [1] * 64)), [0])
        self.assertEqual(last(*SAID, hear_call(4, 64, [1, -1] * 128)), [0] + [1] * 64)


class AnEndOfIt(unittest.TestCase):
    def test_behind_line(self):
        behind = [*SAID, say_call(4, [1] * 64), LINE]
        self.assertEqual(last(*behind, open_call(5, 64)), [3])
        self.assertEqual(last(*behind, open_call(3, 1)), [-17])
        self.assertEqual(last(*behind, open_call(5, 128)), [-28])
        self.assertEqual(last(*behind, close_call(3)), [0])
        self.assertEqual(last(*behind, close_call(5)), [-2])
        self.assertEqual(last(*behind, code_call(4)), [0, 2, 2])
        self.assertEqual(last(*behind, say_call(3, [1] * 128)), [0])
        self.assertEqual(last(*behind, hear_call(4, 64, [1, -1] * 128)), [0] + [1] * 64)

    def test_said_again_behind_line(self):
        again = [*SAID, LINE, say_call(4, [1] * 64)]
        self.assertEqual(last(*again, open_call(5, 64)), [-16])
        self.assertEqual(last(*again, close_call(3)), [-16])
        self.assertEqual(last(*again, say_call(4, [1] * 64)), [-16])
        self.assertEqual(last(*again, say_call(3, [1] * 128)), [0])

    def test_behind_begin(self):
        behind = [*SAID, BEGIN]
        self.assertEqual(last(*behind, open_call(3, 256)), [0])
        self.assertEqual(last(*behind, close_call(3)), [-2])
        self.assertEqual(last(*behind, code_call(3)), [-2])
        self.assertEqual(last(*behind, say_call(3, [1] * 128)), [-2])
        self.assertEqual(last(*behind, hear_call(3, 128, ZEROS)), [-2])
        self.assertEqual(last(*behind, LINE), [0] + ZEROS)

    def test_said_again_behind_begin(self):
        again = [*SAID, BEGIN, *SAID]
        self.assertEqual(ask(*again)[4:], ask(*SAID))
        self.assertEqual(last(*again, open_call(5, 64)), [-16])
        self.assertEqual(last(*again, close_call(4)), [-16])
        self.assertEqual(last(*again, LINE), last(*SAID, LINE))

    def test_nothing_else_makes_an_end_of_it(self):
        between = [code_call(3), hear_call(3, 128, ZEROS), close_call(3), open_call(9, 1), say_call(3, [1] * 128)]
        self.assertEqual(last(*SAID, *between, open_call(5, 64)), [-16])
        self.assertEqual(last(*SAID, *between, close_call(4)), [-16])


if __name__ == "__main__":
    unittest.main()
