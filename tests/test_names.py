import unittest
from itertools import permutations
from math import gcd

from asking import BEGINS, GAPS, all_named, ask, ask_last, left_by, makes, names

TWELVE = list(range(40, 28, -1))
AT_MOST = 4294967295


class DivisorTest(unittest.TestCase):
    def test_alone_where_it_is_not_1(self):
        self.assertEqual(ask([names(6), names(4)]), [[6], [2]])
        self.assertEqual(ask([names(30), names(12), names(20)]), [[30], [6], [2]])

    def test_of_one_number_is_that_number(self):
        for number in range(2, 41):
            self.assertEqual(ask([names(number)]), [[number]])

    def test_with_the_count_of_those_left_where_it_is_1(self):
        self.assertEqual(ask([names(3), names(5)]), [[3], [1, 3]])
        self.assertEqual(ask([names(5), names(3), names(7)]), [[5], [1, 3], [1, 2]])

    def test_none_left(self):
        self.assertEqual(ask([names(2), names(3)]), [[2], [1, 0]])
        self.assertEqual(ask([names(3), names(2)]), [[3], [1, 0]])

    def test_1_only_by_the_third(self):
        self.assertEqual(ask([names(6), names(10), names(15)]), [[6], [2], [1, 14]])

    def test_most_left(self):
        self.assertEqual(ask([names(40), names(39)]), [[40], [1, 740]])

    def test_against_all_sums(self):
        # None of these six is made by others of them.
        for named in permutations((14, 21, 22, 26, 33, 39), 3):
            divisor = gcd(*named)
            expected = [1, len(left_by(named, 2000))] if divisor == 1 else [divisor]
            self.assertEqual(ask(all_named(named))[2], expected, named)


class RefusalTest(unittest.TestCase):
    def test_bounds(self):
        for number in (0, 1, 41, 42, 300, AT_MOST):
            self.assertEqual(ask([names(number)]), [[-1]], number)
            self.assertEqual(ask([names(3), names(number)]), [[3], [-1]], number)
        self.assertEqual(ask([names(2)]), [[2]])
        self.assertEqual(ask([names(40)]), [[40]])
        self.assertEqual(ask([names(3), names(2)])[1], [1, 0])
        self.assertEqual(ask([names(3), names(40)])[1], [1, 38])

    def test_named_already(self):
        self.assertEqual(ask([names(2), names(2)]), [[2], [-4]])
        self.assertEqual(ask([names(40), names(40)]), [[40], [-4]])

    def test_made_of_one_taken_often(self):
        self.assertEqual(ask([names(3), names(39)]), [[3], [-4]])
        self.assertEqual(ask([names(20), names(40)]), [[20], [-4]])

    def test_made_of_several(self):
        for number in (8, 11, 13, 40):
            self.assertEqual(ask_last([names(3), names(5), names(number)]), [-4], number)
        self.assertEqual(ask_last([names(6), names(10), names(15), names(31)]), [-4])

    def test_each_that_is_not_made_is_taken(self):
        for number in range(2, 41):
            taken = ask_last([names(6), names(10), names(15), names(number)]) != [-4]
            self.assertEqual(taken, number in left_by([6, 10, 15], 40), number)

    def test_the_twelfth_is_taken_and_a_thirteenth_is_not(self):
        told = ask(all_named(TWELVE) + [names(28)])
        self.assertEqual(told[11], [1, len(left_by(TWELVE, 2000))])
        self.assertEqual(told[12], [-5])

    def test_the_one_told_first(self):
        for number in (0, 1, 41, AT_MOST):
            self.assertEqual(ask_last(all_named(TWELVE) + [names(number)]), [-1], number)
        for number in (29, 40):
            self.assertEqual(ask_last(all_named(TWELVE) + [names(number)]), [-4], number)
        # 60 and 80 are made, too, and 0 always is.
        self.assertEqual(ask_last([names(20), names(40 + 20)]), [-1])
        self.assertEqual(ask_last([names(2), names(0)]), [-1])

    def test_all_is_as_it_was_after_a_refusal(self):
        refused = [names(0), names(1), names(41), names(8), names(3), names(AT_MOST)]
        after = [GAPS, makes(11), names(7)]
        plain = ask([names(3), names(5)] + after)
        told = ask([names(3), names(5)] + refused + after)
        self.assertEqual(told[2:8], [[-1], [-1], [-1], [-4], [-4], [-1]])
        self.assertEqual(told[8:], plain[2:])

    def test_all_is_as_it_was_after_a_thirteenth(self):
        after = [GAPS, makes(28), makes(300), names(28)]
        told = ask(all_named(TWELVE) + [names(28)] + after)
        self.assertEqual(told[13:], [ask_last(all_named(TWELVE) + [GAPS]), [-3],
                                     ask_last(all_named(TWELVE) + [makes(300)]), [-5]])

    def test_refused_as_the_first_call_none_is_named(self):
        self.assertEqual(ask([names(41), GAPS, makes(41), BEGINS]), [[-1], [-6], [-3], [0]])


if __name__ == "__main__":
    unittest.main()
