import unittest

from asking import (BEGINS, ENDER, GAPS, UNDO, WINS, WORTH, all_named, ask, ask_last, makes, names)

TWELVE = list(range(40, 28, -1))


class UndoTest(unittest.TestCase):
    def test_one_named(self):
        self.assertEqual(ask([names(7), UNDO]), [[7], [0]])

    def test_the_divisor_alone_where_it_is_not_1(self):
        self.assertEqual(ask([names(6), names(4), UNDO]), [[6], [2], [6]])
        self.assertEqual(ask([names(3), names(5), UNDO]), [[3], [1, 3], [3]])
        self.assertEqual(ask([names(6), names(10), names(15), UNDO])[3], [2])

    def test_with_the_count_of_those_left_where_it_is_1(self):
        self.assertEqual(ask([names(3), names(5), names(4), UNDO])[3], [1, 3])
        self.assertEqual(ask([names(2), names(3), UNDO, names(5), names(3), UNDO]),
                         [[2], [1, 0], [2], [1, 1], [1, 0], [1, 1]])

    def test_down_to_none_and_once_more(self):
        told = ask(all_named([8, 9, 7]) + [UNDO] * 5)
        self.assertEqual(told[3:], [told[1], told[0], [0], [-9], [-9]])

    def test_twelve_down_to_none(self):
        told = ask(all_named(TWELVE) + [UNDO] * 13)
        self.assertEqual(told[12:], told[10::-1] + [[0], [-9]])

    def test_it_is_the_last_that_is_taken_back_not_the_greatest_or_least(self):
        self.assertEqual(ask([names(9), names(5), names(7), UNDO, makes(14)])[3:], [[1, 15], [2, 1, 1]])
        self.assertEqual(ask([names(5), names(9), names(7), UNDO, makes(9)])[3:], [[1, 15], [1, 0, 1]])

    def test_the_one_taken_back_may_be_named_again(self):
        told = ask([names(3), names(5), UNDO, names(5), GAPS])
        self.assertEqual(told, [[3], [1, 3], [3], [1, 3], [3, 2, 4, 7]])

    def test_what_it_alone_made_is_not_made_any_more(self):
        told = ask([names(3), names(5), makes(8), names(8), UNDO, makes(8), makes(9), names(8)])
        self.assertEqual(told[2:], [[2, 1, 1], [-4], [3], [-3], [3, 3], [1, 6]])

    def test_one_that_others_make_now_is_still_named(self):
        # 6 was named ahead of 3: taken back is 3, and 6 stays.
        told = ask([names(6), names(3), makes(12), UNDO, makes(12), makes(3)])
        self.assertEqual(told, [[6], [3], [2, 2, 0], [6], [2, 2], [-3]])

    def test_a_twelfth_taken_back_then_another_one_named(self):
        told = ask(all_named(TWELVE) + [names(28), UNDO, names(28), names(27), makes(28), makes(29)])
        self.assertEqual(told[12], [-5])
        self.assertEqual(told[13], told[10])
        self.assertEqual(told[14], ask_last(all_named(TWELVE[:11] + [28])))
        self.assertEqual(told[15:], [[-5], [1] + [0] * 11 + [1], [-3]])

    def test_behind_a_refused_call(self):
        for refused in (names(8), names(41), names(3), makes(4), makes(301)):
            told = ask([names(3), names(5), refused, UNDO])
            self.assertEqual(told[3], [3], refused)
        told = ask([GAPS, names(6), WINS, UNDO, UNDO, names(4)])
        self.assertEqual(told, [[-6], [6], [-6], [0], [-9], [4]])

    def test_behind_calls_that_look_on(self):
        told = ask(all_named([3, 5]) + [GAPS, makes(8), WINS, WORTH, ENDER, UNDO, GAPS])
        self.assertEqual(told[7:], [[3], [-6]])

    def test_what_wins_worth_and_ender_tell_after_it(self):
        told = ask(all_named([4, 5]) + [WINS, WORTH, ENDER, names(11), UNDO, WINS, WORTH, ENDER])
        self.assertEqual(told[7:], told[2:5])


class RefusalTest(unittest.TestCase):
    def test_as_the_first_call(self):
        self.assertEqual(ask([UNDO]), [[-9]])

    def test_behind_begins(self):
        self.assertEqual(ask([names(3), names(5), BEGINS, UNDO]), [[3], [1, 3], [0], [-9]])

    def test_all_is_as_it_was_after_it(self):
        told = ask([UNDO, UNDO, names(6), UNDO, UNDO, names(4), names(6)])
        self.assertEqual(told, [[-9], [-9], [6], [0], [-9], [4], [2]])


if __name__ == "__main__":
    unittest.main()
