import unittest
from itertools import combinations
from math import gcd

from asking import GAPS, all_named, ask, ask_last, left_by, names


class GapsTest(unittest.TestCase):
    def test_none_left(self):
        self.assertEqual(ask([names(2), names(3), GAPS])[2], [0])
        self.assertEqual(ask([names(3), names(4), names(5), names(2), GAPS])[4], [0])

    def test_one_left(self):
        self.assertEqual(ask_last([names(3), names(4), names(5), GAPS]), [1, 2])

    def test_few_left(self):
        self.assertEqual(ask_last([names(5), names(3), GAPS]), [3, 2, 4, 7])
        self.assertEqual(ask_last([names(2), names(9), GAPS]), [3, 3, 5, 7])

    def test_of_three_without_a_pair_of_divisor_1(self):
        told = ask_last([names(6), names(10), names(15), GAPS])
        self.assertEqual(told, [14, 2, 3, 4, 5, 7, 8, 9, 11, 13, 14, 17, 19, 23, 29])

    def test_many_left(self):
        told = ask_last([names(40), names(39), GAPS])
        self.assertEqual(told, [740] + left_by([39, 40], 4000))
        self.assertEqual(told[-1], 1481)

    def test_many_left_by_many(self):
        for named in (list(range(40, 28, -1)), [40, 38, 36, 39], [36, 40, 30, 35]):
            left = left_by(named, 4000)
            self.assertEqual(ask_last(all_named(named) + [GAPS]), [len(left)] + left)

    def test_each_pair_and_triple_of_small_ones(self):
        for few in (2, 3):
            for named in combinations(range(13, 1, -1), few):
                if gcd(*named) == 1:
                    left = left_by(named, 300)
                    self.assertEqual(ask_last(all_named(named) + [GAPS]), [len(left)] + left)

    def test_twice_and_unchanged(self):
        told = ask([names(3), names(5), GAPS, GAPS, names(4)])
        self.assertEqual(told[2:], [[3, 2, 4, 7], [3, 2, 4, 7], [1, 1]])


class RefusalTest(unittest.TestCase):
    def test_none_named(self):
        self.assertEqual(ask([GAPS]), [[-6]])

    def test_one_named(self):
        for number in range(2, 41):
            self.assertEqual(ask([names(number), GAPS])[1], [-6])

    def test_a_common_divisor(self):
        self.assertEqual(ask([names(6), names(4), GAPS])[2], [-6])
        self.assertEqual(ask([names(6), names(10), GAPS, names(15), GAPS])[2], [-6])
        self.assertEqual(ask([names(39), names(26), GAPS])[2], [-6])

    def test_all_is_as_it_was_after_it(self):
        told = ask([GAPS, names(4), GAPS, names(7), GAPS])
        self.assertEqual(told, [[-6], [4], [-6], [1, 8], [8, 2, 3, 5, 6, 9, 10, 13, 17]])


if __name__ == "__main__":
    unittest.main()
