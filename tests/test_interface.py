import time
import unittest

from asking import (ENDER, GAPS, SIXTEEN_LEFT, UNDO, WINS, WORTH, all_named, ask, ask_last, makes, names,
                    small_games)
from namedinturn.game import answers

CALLS = [2, 1, 41, 1, 3, 1, 6, 1, 5, 2, 3, 11, 3, 7, 3, 301, 0, 3, 0, 1, 4, 2]
TOLD = [1, -6, 1, -1, 1, 3, 1, -4, 2, 1, 3, 4, 3, 2, 4, 7, 3, 3, 2, 1, 1, -3, 1, -1, 1, 0, 1, 0, 1, 4, 1, -6]

# All eight calls and each refusal but -5, with what is answered.
EIGHT_CALLS = [
    ([7], [-9]),
    ([4], [-6]),
    ([1, 4], [4]),
    ([1, 13], [1, 17]),
    ([5], [-7]),
    ([1, 5], [1, 5]),
    ([4], [1, 11]),
    ([5], [3]),
    ([6], [1, 11]),
    ([1, 18], [-4]),
    ([2], [5, 2, 3, 6, 7, 11]),
    ([3, 14], [3, 1, 0, 2]),
    ([1, 11], [1, 4]),
    ([4], [0]),
    ([5], [0]),
    ([6], [0, 7, 6]),
    ([7], [1, 5]),
    ([7], [1, 17]),
    ([2], [17, 2, 3, 5, 6, 7, 9, 10, 11, 14, 15, 18, 19, 22, 23, 27, 31, 35]),
    ([0], [0]),
    ([7], [-9]),
    ([2], [-6]),
    ([1, 2], [2]),
    ([1, 3], [1, 0]),
    ([6], [-8]),
    ([1, 41], [-1]),
    ([3, 301], [-1]),
    ([3, 1], [-3]),
    ([7], [2]),
]
LOOKS_AHEAD = [WINS, WORTH, ENDER]


def flat(rows):
    return [number for row in rows for number in row]


class InterfaceTest(unittest.TestCase):
    def test_one_call(self):
        self.assertEqual(answers([0]), [1, 0])
        self.assertEqual(answers([1, 7]), [1, 7])
        self.assertEqual(answers([2]), [1, -6])
        self.assertEqual(answers([3, 0]), [1, 0])

    def test_several_calls_in_one_list_refusals_among_them(self):
        self.assertEqual(answers(list(CALLS)), TOLD)

    def test_numbers_that_look_like_calls_are_not_taken_for_them(self):
        self.assertEqual(answers([3, 2, 1, 2, 3, 2, 1, 3, 1, 0, 2]),
                         [1, -3, 1, 2, 2, 1, 1, 2, 1, 0, 1, -1, 1, 0])

    def test_forty_calls(self):
        calls = [1, 39, 1, 40] + [2] * 38
        told = answers(calls)
        self.assertEqual(told[:5], [1, 39, 2, 1, 740])
        self.assertEqual(told[5:], told[5:747] * 38)
        self.assertEqual(told[5:7], [741, 740])

    def test_all_eight_calls_in_one_list_refusals_among_them(self):
        calls = flat([call for call, told in EIGHT_CALLS])
        told = flat([[len(told)] + told for call, told in EIGHT_CALLS])
        self.assertEqual(answers(calls), told)
        self.assertEqual(calls, flat([call for call, told in EIGHT_CALLS]))
        self.assertEqual(answers(calls), told)
        self.assertEqual({type(number) for number in answers(calls)}, {int})

    def test_numbers_that_look_like_the_later_calls_are_not_taken_for_them(self):
        self.assertEqual(ask([names(7), names(4), names(6), names(5), makes(7), makes(4), makes(3)]),
                         [[7], [1, 8], [1, 4], [1, 2], [1, 1, 0, 0, 0], [1, 0, 1, 0, 0], [-3]])

    def test_each_call_without_a_number_by_itself(self):
        for call, told in ((0, 0), (2, -6), (4, -6), (5, -6), (6, -6), (7, -9)):
            self.assertEqual(answers([call]), [1, told])

    def test_wins_worth_and_ender_change_nothing_that_is_told_later(self):
        behind = [GAPS, makes(30), WINS, WORTH, ENDER, names(2), GAPS, UNDO, GAPS, UNDO]
        for named in ([], [6], [2, 3], [4, 13], [4, 5], [7, 9, 11], SIXTEEN_LEFT[1]):
            plain = ask(all_named(named) + behind)[len(named):]
            told = ask(all_named(named) + LOOKS_AHEAD + behind)[len(named) + 3:]
            self.assertEqual(told, plain, named)

    def test_each_of_them_tells_the_same_as_by_itself(self):
        for named in small_games():
            told = ask(all_named(named) + LOOKS_AHEAD)[-3:]
            self.assertEqual(told, [ask_last(all_named(named) + [call]) for call in LOOKS_AHEAD], named)

    def test_eight_of_them_with_16_left_are_answered_at_once(self):
        calls = [WINS, WORTH, ENDER, WINS, WORTH, ENDER, WINS, WORTH]
        for named in SIXTEEN_LEFT:
            start = time.perf_counter()
            told = ask(all_named(named) + calls)[len(named):]
            self.assertLess(time.perf_counter() - start, 5, named)
            self.assertEqual(told, told[:3] + told[:3] + told[:2])

    def test_eight_of_them_in_four_games_with_16_left(self):
        calls = []
        told = []
        for named in SIXTEEN_LEFT[:4]:
            game = [[0]] + all_named(named) + [WINS, WORTH]
            calls += game
            told += ask(game)
        self.assertEqual(ask(calls), told)

    def test_the_list_handed_in_is_as_it_was(self):
        calls = list(CALLS)
        answers(calls)
        self.assertEqual(calls, CALLS)

    def test_a_second_time_answers_as_the_first(self):
        self.assertEqual(answers(list(CALLS)), answers(list(CALLS)))
        self.assertEqual(answers([1, 4]), [1, 4])
        self.assertEqual(answers([1, 4]), [1, 4])

    def test_nothing_is_kept_in_what_was_given_back(self):
        first = answers(list(CALLS))
        first.clear()
        self.assertEqual(answers(list(CALLS)), TOLD)

    def test_whole_numbers_in_one_list(self):
        told = answers(list(CALLS))
        self.assertIs(type(told), list)
        self.assertEqual({type(number) for number in told}, {int})


if __name__ == "__main__":
    unittest.main()
