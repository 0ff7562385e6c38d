import unittest

from namedinturn.game import answers

CALLS = [2, 1, 41, 1, 3, 1, 6, 1, 5, 2, 3, 11, 3, 7, 3, 301, 0, 3, 0, 1, 4, 2]
TOLD = [1, -6, 1, -1, 1, 3, 1, -4, 2, 1, 3, 4, 3, 2, 4, 7, 3, 3, 2, 1, 1, -3, 1, -1, 1, 0, 1, 0, 1, 4, 1, -6]


class InterfaceTest(unittest.TestCase):
    def test_one_call(self):
        self.assertEqual(answers([0]), [1, 0])
        self.assertEqual(answers([1, 7]), [1, 7])
        self.assertEqual(answers([2]), [1, -6])
        self.assertEqual(answers([3, 0]), [1, 0])

    def test_several_calls_in_one_list_refusals_among_them(self):
        self.assertEqual(answers(list(CALLS)), TOLD)

    def test_numbers_that_look_like_calls_are_not_taken_for_them(self):
        self.assertEqual(answers([3, 2, 1, 2, 3, 2, 1, 3, 1, 0, 2]),
                         [1, -3, 1, 2, 2, 1, 1, 2, 1, 0, 1, -1, 1, 0])

    def test_forty_calls(self):
        calls = [1, 39, 1, 40] + [2] * 38
        told = answers(calls)
        self.assertEqual(told[:5], [1, 39, 2, 1, 740])
        self.assertEqual(told[5:], told[5:747] * 38)
        self.assertEqual(told[5:7], [741, 740])

    def test_the_list_handed_in_is_as_it_was(self):
        calls = list(CALLS)
        answers(calls)
        self.assertEqual(calls, CALLS)

    def test_a_second_time_answers_as_the_first(self):
        self.assertEqual(answers(list(CALLS)), answers(list(CALLS)))
        self.assertEqual(answers([1, 4]), [1, 4])
        self.assertEqual(answers([1, 4]), [1, 4])

    def test_nothing_is_kept_in_what_was_given_back(self):
        first = answers(list(CALLS))
        first.clear()
        self.assertEqual(answers(list(CALLS)), TOLD)

    def test_whole_numbers_in_one_list(self):
        told = answers(list(CALLS))
        self.assertIs(type(told), list)
        self.assertEqual({type(number) for number in told}, {int})


if __name__ == "__main__":
    unittest.main()
