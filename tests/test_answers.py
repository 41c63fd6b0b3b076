"""The interface: codeline.line.answers, its list and what it gives back."""

import unittest

from codeline.line import answers
from tests.helper import BEGIN, LINE, ZEROS, close_call, code_call, hear_call, open_call, say_call


class Shape(unittest.TestCase):
    def test_the_empty_list(self):
        self.assertEqual(answers([]), [])

    def test_each_answer_behind_its_count(self):
        self.assertEqual(answers([0]), [1, 0])
        self.assertEqual(answers([1, 5, 64]), [1, 0])
        self.assertEqual(answers([1, 5, 64, 3, 5]), [1, 0, 3, 0, 2, 0])
        self.assertEqual(answers([1, 5, 64, 2, 5, 3, 5]), [1, 0, 1, 0, 1, -2])

    def test_a_refusal_is_its_number_alone(self):
        self.assertEqual(answers([1, 256, 1, 1, 0, 3, 2, 256, 3, 256, 2, 0, 3, 0]),
                         [1, -22, 1, -22, 1, -22, 1, -22, 1, -2, 1, -2])
        self.assertEqual(answers([1, 0, 256, 1, 0, 1, 1, 1, 1]), [1, 0, 1, -17, 1, -28])

    def test_the_moved_are_told_of_without_a_count_of_them(self):
        self.assertEqual(answers([1, 0, 64, 1, 1, 64, 1, 2, 64, 2, 1, 1, 6, 128, 3, 6]),
                         [1, 0, 1, 1, 1, 2, 1, 0, 7, 0, 0, 2, 2, 2, 2, 3, 3, 0, 1, 0])

    def test_each_call_may_be_the_first(self):
        self.assertEqual(answers([1, 0, 1]), [1, 0])
        self.assertEqual(answers([2, 0]), [1, -2])
        self.assertEqual(answers([3, 0]), [1, -2])
        self.assertEqual(answers([3, 4294967295]), [1, -22])
        self.assertEqual(answers([4, 0, 2, 2, 5, 5]), [1, -2])
        self.assertEqual(answers([5]), [257, 0] + ZEROS)
        self.assertEqual(answers([6, 0, 1, 256] + ZEROS), [1, -2])

    def test_say_line_and_hear(self):
        line = [3] * 128 + [-4] * 128
        self.assertEqual(answers([1, 5, 2, 4, 5, 2, 2, 3, -4]), [1, 0, 1, 0])
        self.assertEqual(answers([1, 5, 2, 4, 5, 2, 2, 3, -4, 5]), [1, 0, 1, 0, 257, 1] + line)
        self.assertEqual(answers([1, 5, 2, 6, 5, 2, 256] + line), [1, 0, 3, 0, 3, -4])

    def test_hear_answers_as_many_as_rate_behind_0(self):
        self.assertEqual(answers([1, 5, 256, 6, 5, 256, 256] + ZEROS), [1, 0, 257, 0] + ZEROS)
        self.assertEqual(answers([1, 5, 1, 6, 5, 1, 256] + ZEROS), [1, 0, 2, 0, 0])

    def test_refusals_of_say_and_hear_are_one_number(self):
        self.assertEqual(answers([1, 5, 2, 4, 256, 1, 1, 0, 4, 5, 1, 1, 0, 4, 5, 2, 2, 0, 2048, 4, 0, 1, 1, 0]),
                         [1, 0, 1, -22, 1, -33, 1, -34, 1, -2])
        for user, rate, number in ((256, 2, -22), (5, 3, -22), (0, 2, -2), (5, 1, -33)):
            self.assertEqual(answers([1, 5, 2, 6, user, rate, 256] + ZEROS + [3, 5]),
                             [1, 0, 1, number, 3, 0, 7, 0])

    def test_a_rate_that_is_none_comes_with_no_number(self):
        self.assertEqual(answers([4, 0, 3, 0, 1, 0, 1, 4, 0, 0, 0, 4, 0, 4294967295, 0, 4, 0, 1, 1, 9]),
                         [1, -22, 1, 0, 1, -22, 1, -22, 1, 0])

    def test_a_rows_numbers_are_not_taken_for_calls(self):
        self.assertEqual(answers([1, 6, 4, 4, 6, 4, 4, 0, 5, 5, 0, 3, 6, 6, 6, 4, 256] + [0, 5] * 128 + [3, 6]),
                         [1, 0, 1, 0, 3, 0, 6, 0, 5, 0, 2, 2, 2, 2, 3, 0, 6, 0])

    def test_a_users_number_is_not_taken_for_a_call(self):
        self.assertEqual(answers([1, 0, 2, 1, 3, 1, 1, 2, 4, 3, 3, 2, 3, 3, 2]),
                         [1, 0, 1, 2, 1, 1, 3, 0, 8, 2, 1, 0, 3, 0, 6, 1])

    def test_whole_numbers_in_a_list(self):
        calls = [0, 1, 0, 1, 1, 1, 128, 1, 0, 1, 1, 2, 256, 3, 1, 3, 9, 2, 9, 2, 0]
        calls += [4, 1, 128, 128] + [7] * 128 + [4, 1, 3, 0, 5, 6, 1, 128, 256] + ZEROS + [6, 1, 3, 256] + ZEROS
        told = answers(calls)
        self.assertIs(type(told), list)
        self.assertEqual({type(number) for number in told}, {int})


class NothingKept(unittest.TestCase):
    def setUp(self):
        calls = [open_call(user, 64) for user in range(4)]
        calls += [close_call(1), close_call(3), open_call(7, 128), code_call(0), open_call(256, 1)]
        calls += [say_call(7, [9] * 128), say_call(7, [1] * 128), say_call(0, [-2048] * 64), say_call(0, [5] * 64)]
        calls += [hear_call(7, 128, [9] * 256), hear_call(0, 64, [1000001] * 256), LINE, LINE, BEGIN]
        self.calls = [number for call in calls for number in call]

    def test_what_is_handed_in_is_the_same_afterwards(self):
        before = list(self.calls)
        answers(self.calls)
        self.assertEqual(self.calls, before)

    def test_what_is_handed_in_is_never_changed(self):
        class Fixed(list):
            def refuse(self, *given):
                raise AssertionError("changed")
            append = extend = insert = remove = pop = clear = sort = reverse = refuse
            __setitem__ = __delitem__ = __iadd__ = __imul__ = refuse

        self.assertEqual(answers(Fixed(self.calls)), answers(self.calls))

    def test_asked_twice(self):
        self.assertEqual(answers(self.calls), answers(list(self.calls)))

    def test_what_is_given_back_is_new_each_time(self):
        once = answers(self.calls)
        wanted = list(once)
        once.clear()
        self.assertEqual(answers(self.calls), wanted)

    def test_each_object_is_new(self):
        self.assertEqual(answers([1, 0, 256]), [1, 0])
        self.assertEqual(answers([3, 0]), [1, -2])
        self.assertEqual(answers([1, 0, 256]), [1, 0])
        self.assertEqual(answers([1, 0, 1, 4, 0, 1, 1, 9]), [1, 0, 1, 0])
        self.assertEqual(answers([5]), [257, 0] + ZEROS)
        self.assertEqual(answers([1, 0, 1, 4, 0, 1, 1, 9]), [1, 0, 1, 0])


class FourHundred(unittest.TestCase):
    def test_opens_and_closes(self):
        calls = []
        for user in range(200):
            calls += open_call(user, 256) + close_call(user)
        self.assertEqual(answers(calls), [1, 0] * 400)

    def test_all_codes_asked_for(self):
        calls = []
        wanted = []
        for user in range(200):
            calls += open_call(user, 1)
            wanted += [1, user]
        for user in range(200):
            calls += code_call(user)
            wanted += [3, 0, 8, user]
        self.assertEqual(answers(calls), wanted)

    def test_begin_400_times(self):
        self.assertEqual(answers([0] * 400), [1, 0] * 400)


if __name__ == "__main__":
    unittest.main()
