import unittest

from asking import SIXTEEN_LEFT, WINS, all_named, ask, ask_last, left_by, names, plain_winning, small_games


def wins(named):
    return ask_last(all_named(named) + [WINS])


def told_of(winning):
    return [1] + winning if winning else [0]


class WinsTest(unittest.TestCase):
    def test_none_left(self):
        self.assertEqual(wins([2, 3]), [0])
        self.assertEqual(wins([3, 2]), [0])
        self.assertEqual(wins([3, 4, 5, 2]), [0])

    def test_one_left(self):
        self.assertEqual(wins([3, 4, 5]), [1, 2])
        self.assertEqual(wins([2, 5]), [1, 3])

    def test_only_the_greatest_one_wins(self):
        # 2, 3, 6 and 7 are left by 4, 5 and 11; whoever is to name doesn't win there.
        self.assertEqual(wins([4, 5]), [1, 11])

    def test_only_the_least_one_wins(self):
        for last in range(5, 37, 2):
            self.assertEqual(wins([2, last]), [1, 3])

    def test_several_rising(self):
        self.assertEqual(wins([4, 9, 11]), [1, 5, 6])
        self.assertEqual(wins([8, 9, 13]), [1, 10, 14, 15])
        self.assertEqual(wins([10, 7, 12, 13]), [1, 15, 16, 18])
        self.assertEqual(wins([5, 7, 13]), [1, 8, 9, 11])

    def test_each_one_left_but_some(self):
        # 2 and 3 are answered by one another.
        self.assertEqual(wins([4, 9, 10, 11]), [1, 5, 6, 7])

    def test_whoever_is_to_name_does_not_win(self):
        self.assertEqual(wins([4, 5, 6, 7]), [0])
        self.assertEqual(wins([4, 5, 11]), [0])
        self.assertEqual(wins([5, 7, 8]), [0])
        self.assertEqual(wins([7, 10, 12]), [0])

    def test_16_left(self):
        self.assertEqual(wins([2, 35]), [1, 3])
        known = {}
        for named in SIXTEEN_LEFT:
            self.assertEqual(len(left_by(named, 200)), 16)
            self.assertEqual(wins(named), told_of(plain_winning(list(named), known)), named)

    def test_in_whatever_order_they_were_named(self):
        for named in SIXTEEN_LEFT:
            self.assertEqual(wins(named), wins(named[::-1]))

    def test_one_named_that_others_make_now(self):
        self.assertEqual(wins([8, 15, 4, 5]), wins([4, 5]))
        self.assertEqual(wins([10, 9, 3, 4, 5]), wins([3, 4, 5]))

    def test_against_a_plain_search(self):
        known = {}
        for named in small_games():
            self.assertEqual(wins(named), told_of(plain_winning(named, known)), named)

    def test_what_the_other_one_finds_after_each_number(self):
        games = [[4, 9, 11], [8, 9, 13], [5, 7, 8], [7, 10, 12]]
        games += [list(named) for named in SIXTEEN_LEFT if len(named) < 12]
        for named in games:
            winning = wins(named)[1:]
            for number in left_by(named, 200):
                other = wins(named + [number])
                self.assertEqual(other[0] == 0, number in winning, (named, number))
                self.assertEqual(other[0] == 0, len(other) == 1)

    def test_a_thirteenth_may_be_chosen_though_names_refuses_it(self):
        twelve = list(range(23, 11, -1))
        told = ask(all_named(twelve) + [names(11), WINS])
        self.assertEqual(told[12], [-5])
        self.assertEqual(told[13], told_of(plain_winning(twelve, {})))


class RefusalTest(unittest.TestCase):
    def test_all_is_as_it_was_after_it(self):
        told = ask([WINS, names(4), WINS, names(13), WINS, names(5), WINS])
        self.assertEqual(told[:5], [[-6], [4], [-6], [1, 17], [-7]])
        self.assertEqual(told[5:], ask(all_named([4, 13, 5]) + [WINS])[2:])


if __name__ == "__main__":
    unittest.main()
