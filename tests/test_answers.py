"""The interface: codeline.line.answers, its list and what it gives back."""

import unittest

from codeline.line import answers
from tests.helper import close_call, code_call, open_call


class Shape(unittest.TestCase):
    def test_the_empty_list(self):
        self.assertEqual(answers([]), [])

    def test_each_answer_behind_its_count(self):
        self.assertEqual(answers([0]), [1, 0])
        self.assertEqual(answers([1, 5, 64]), [1, 0])
        self.assertEqual(answers([1, 5, 64, 3, 5]), [1, 0, 3, 0, 2, 0])
        self.assertEqual(answers([1, 5, 64, 2, 5, 3, 5]), [1, 0, 1, 0, 1, -2])

    def test_a_refusal_is_its_number_alone(self):
        self.assertEqual(answers([1, 256, 1, 1, 0, 3, 2, 256, 3, 256, 2, 0, 3, 0]),
                         [1, -22, 1, -22, 1, -22, 1, -22, 1, -2, 1, -2])
        self.assertEqual(answers([1, 0, 256, 1, 0, 1, 1, 1, 1]), [1, 0, 1, -17, 1, -28])

    def test_the_moved_are_told_of_without_a_count_of_them(self):
        self.assertEqual(answers([1, 0, 64, 1, 1, 64, 1, 2, 64, 2, 1, 1, 6, 128, 3, 6]),
                         [1, 0, 1, 1, 1, 2, 1, 0, 7, 0, 0, 2, 2, 2, 2, 3, 3, 0, 1, 0])

    def test_each_call_may_be_the_first(self):
        self.assertEqual(answers([1, 0, 1]), [1, 0])
        self.assertEqual(answers([2, 0]), [1, -2])
        self.assertEqual(answers([3, 0]), [1, -2])
        self.assertEqual(answers([3, 4294967295]), [1, -22])

    def test_a_users_number_is_not_taken_for_a_call(self):
        self.assertEqual(answers([1, 0, 2, 1, 3, 1, 1, 2, 4, 3, 3, 2, 3, 3, 2]),
                         [1, 0, 1, 2, 1, 1, 3, 0, 8, 2, 1, 0, 3, 0, 6, 1])

    def test_whole_numbers_in_a_list(self):
        calls = [0, 1, 0, 1, 1, 1, 128, 1, 0, 1, 1, 2, 256, 3, 1, 3, 9, 2, 9, 2, 0]
        told = answers(calls)
        self.assertIs(type(told), list)
        self.assertEqual({type(number) for number in told}, {int})


class NothingKept(unittest.TestCase):
    def setUp(self):
        calls = [open_call(user, 64) for user in range(4)]
        calls += [close_call(1), close_call(3), open_call(7, 128), code_call(0), open_call(256, 1)]
        self.calls = [number for call in calls for number in call]

    def test_what_is_handed_in_is_the_same_afterwards(self):
        before = list(self.calls)
        answers(self.calls)
        self.assertEqual(self.calls, before)

    def test_what_is_handed_in_is_never_changed(self):
        class Fixed(list):
            def refuse(self, *given):
                raise AssertionError("changed")
            append = extend = insert = remove = pop = clear = sort = reverse = refuse
            __setitem__ = __delitem__ = __iadd__ = __imul__ = refuse

        self.assertEqual(answers(Fixed(self.calls)), answers(self.calls))

    def test_asked_twice(self):
        self.assertEqual(answers(self.calls), answers(list(self.calls)))

    def test_what_is_given_back_is_new_each_time(self):
        once = answers(self.calls)
        wanted = list(once)
        once.clear()
        self.assertEqual(answers(self.calls), wanted)

    def test_each_object_is_new(self):
        self.assertEqual(answers([1, 0, 256]), [1, 0])
        self.assertEqual(answers([3, 0]), [1, -2])
        self.assertEqual(answers([1, 0, 256]), [1, 0])


class FourHundred(unittest.TestCase):
    def test_opens_and_closes(self):
        calls = []
        for user in range(200):
            calls += open_call(user, 256) + close_call(user)
        self.assertEqual(answers(calls), [1, 0] * 400)

    def test_all_codes_asked_for(self):
        calls = []
        wanted = []
        for user in range(200):
            calls += open_call(user, 1)
            wanted += [1, user]
        for user in range(200):
            calls += code_call(user)
            wanted += [3, 0, 8, user]
        self.assertEqual(answers(calls), wanted)

    def test_begin_400_times(self):
        self.assertEqual(answers([0] * 400), [1, 0] * 400)


if __name__ == "__main__":
    unittest.main()
