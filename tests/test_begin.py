"""Point 1: begin, and what is new at the beginning."""

import unittest

from tests.helper import BEGIN, LINE, ZEROS, all_codes, ask, close_call, code_call, last, open_call, say_call


class Begin(unittest.TestCase):
    def test_answers_0(self):
        self.assertEqual(ask(BEGIN), [[0]])
        self.assertEqual(ask(BEGIN, BEGIN), [[0], [0]])

    def test_nobody_has_a_code_behind_it(self):
        self.assertEqual(all_codes(BEGIN), {})

    def test_new_is_as_behind_begin(self):
        self.assertEqual(all_codes(), {})
        self.assertEqual(ask(close_call(0)), [[-2]])
        self.assertEqual(ask(open_call(0, 256)), [[0]])

    def test_begun_again_all_codes_are_gone(self):
        opens = [open_call(user, 64) for user in range(4)]
        self.assertEqual(all_codes(*opens, BEGIN), {})
        self.assertEqual(last(*opens, BEGIN, close_call(2)), [-2])

    def test_begun_again_there_is_room_as_at_first(self):
        opens = [open_call(user, 64) for user in range(4)]
        self.assertEqual(last(*opens, open_call(4, 1)), [-28])
        self.assertEqual(last(*opens, BEGIN, open_call(4, 256)), [0])
        self.assertEqual(last(*opens, BEGIN, open_call(2, 1)), [0])

    def test_begun_again_the_same_calls_answer_the_same(self):
        calls = [open_call(0, 1), open_call(1, 128), open_call(2, 64), close_call(1),
                 open_call(3, 128), code_call(0), code_call(2)]
        once = ask(*calls)
        self.assertEqual(ask(*calls, BEGIN, *calls), once + [[0]] + once)

    def test_the_line_is_0_and_nobody_has_said_anything(self):
        self.assertEqual(last(BEGIN, LINE), [0] + ZEROS)
        calls = [open_call(7, 2), say_call(7, [5, -5]), BEGIN]
        self.assertEqual(last(*calls, LINE), [0] + ZEROS)
        self.assertEqual(ask(*calls, open_call(7, 2), say_call(7, [1, 0]), LINE)[3:],
                         [[0], [0], [1] + [1] * 128 + [0] * 128])


if __name__ == "__main__":
    unittest.main()
