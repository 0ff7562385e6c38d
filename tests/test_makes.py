import unittest
from itertools import permutations

from asking import BEGINS, GAPS, all_named, ask, ask_last, first_rows, made_by, makes, names

AT_MOST = 4294967295


class MakesTest(unittest.TestCase):
    def test_0_is_the_sum_of_none(self):
        self.assertEqual(ask([makes(0)]), [[0]])
        self.assertEqual(ask_last([names(7), makes(0)]), [0, 0])
        self.assertEqual(ask_last([names(7), names(4), names(10), makes(0)]), [0, 0, 0, 0])

    def test_in_one_way(self):
        self.assertEqual(ask_last([names(3), names(5), makes(3)]), [1, 1, 0])
        self.assertEqual(ask_last([names(3), names(5), makes(8)]), [2, 1, 1])
        self.assertEqual(ask_last([names(3), names(5), makes(14)]), [4, 3, 1])

    def test_in_several_ways_by_the_fewest(self):
        self.assertEqual(ask_last([names(3), names(5), makes(15)]), [3, 0, 3])
        self.assertEqual(ask_last([names(5), names(3), makes(15)]), [3, 3, 0])
        # The greatest taken first would leave 2, which isn't made.
        self.assertEqual(ask_last([names(10), names(6), names(7), makes(12)]), [2, 0, 2, 0])

    def test_of_equally_few_the_first_row(self):
        self.assertEqual(ask_last([names(4), names(6), names(5), makes(10)]), [2, 0, 0, 2])
        self.assertEqual(ask_last([names(5), names(4), names(6), makes(10)]), [2, 0, 1, 1])
        self.assertEqual(ask_last([names(6), names(5), names(4), makes(10)]), [2, 0, 2, 0])

    def test_of_equally_few_by_the_second_where_the_first_is_alike(self):
        # 9 + 11, 7 + 13 and 10 + 10 are 20; 8 stands ahead and is in none of them.
        named = all_named([8, 13, 11, 7, 9, 10])
        self.assertEqual(ask_last(named + [makes(20)]), [2, 0, 0, 0, 0, 0, 2])
        named = all_named([8, 10, 13, 11, 7, 9])
        self.assertEqual(ask_last(named + [makes(20)]), [2, 0, 0, 0, 1, 0, 1])

    def test_in_the_order_of_naming(self):
        # 19 = 5 + 5 + 9 = 5 + 7 + 7.
        self.assertEqual(ask_last([names(9), names(5), names(7), makes(19)]), [3, 0, 1, 2])
        self.assertEqual(ask_last([names(5), names(7), names(9), makes(19)]), [3, 1, 2, 0])
        self.assertEqual(ask_last([names(7), names(5), names(9), makes(19)]), [3, 0, 2, 1])
        self.assertEqual(ask_last([names(7), names(9), names(5), makes(19)]), [3, 0, 1, 2])

    def test_300_and_above(self):
        self.assertEqual(ask_last([names(2), makes(300)]), [150, 150])
        self.assertEqual(ask_last([names(2), makes(301)]), [-1])
        self.assertEqual(ask_last([names(2), makes(302)]), [-1])
        self.assertEqual(ask_last([names(2), makes(AT_MOST)]), [-1])
        self.assertEqual(ask_last([names(2), names(3), makes(300)]), [100, 0, 100])

    def test_against_all_rows_of_small_numbers(self):
        for named in permutations((4, 5, 6, 7), 3):
            rows = first_rows(named, 8)
            told = ask(all_named(named) + [makes(number) for number in range(33)])[3:]
            for number, answer in enumerate(told):
                row = rows.get(number)
                expected = [-3] if row is None else [sum(row)] + row
                self.assertEqual(answer, expected, (named, number))

    def test_against_all_rows_of_twelve_numbers(self):
        named = [34, 29, 40, 31, 36, 33, 38, 30, 35, 39, 32, 37]
        rows = first_rows(named, 5)
        for number in list(range(28, 100)) + list(range(180, 201)):
            row = rows.get(number)
            expected = [-3] if row is None else [sum(row)] + row
            self.assertEqual(ask_last(all_named(named) + [makes(number)]), expected, number)


class RefusalTest(unittest.TestCase):
    def test_not_made(self):
        for number in (1, 2, 4, 7):
            self.assertEqual(ask_last([names(3), names(5), makes(number)]), [-3], number)
        self.assertEqual(ask_last([names(2), makes(299)]), [-3])

    def test_each_up_to_300(self):
        named = [16, 36, 26, 39]
        made = made_by(named, 300)
        for number in range(301):
            refused = ask_last(all_named(named) + [makes(number)]) == [-3]
            self.assertEqual(refused, number not in made, number)

    def test_none_named(self):
        for number in (1, 2, 40, 300):
            self.assertEqual(ask([makes(number)]), [[-3]], number)
        self.assertEqual(ask([names(2), BEGINS, makes(2)])[2], [-3])

    def test_above_300_is_told_first(self):
        for number in (301, AT_MOST):
            self.assertEqual(ask([makes(number)]), [[-1]], number)
            self.assertEqual(ask_last([names(2), makes(number)]), [-1], number)
            self.assertEqual(ask_last([names(4), makes(number)]), [-1], number)

    def test_all_is_as_it_was(self):
        told = ask([names(3), names(5), makes(7), makes(301), makes(8), GAPS, names(7), makes(7)])
        self.assertEqual(told[2:], [[-3], [-1], [2, 1, 1], [3, 2, 4, 7], [1, 2], [1, 0, 0, 1]])


if __name__ == "__main__":
    unittest.main()
