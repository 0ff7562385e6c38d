import unittest

from asking import BEGINS, GAPS, ask, makes, names


class BeginsTest(unittest.TestCase):
    def test_as_the_first_call(self):
        self.assertEqual(ask([BEGINS]), [[0]])

    def test_none_is_named_behind_it_as_the_first_call(self):
        self.assertEqual(ask([BEGINS, GAPS, names(6)]), [[0], [-6], [6]])

    def test_after_numbers_were_named(self):
        told = ask([names(3), names(5), GAPS, BEGINS, GAPS, makes(3), makes(0), names(3)])
        self.assertEqual(told, [[3], [1, 3], [3, 2, 4, 7], [0], [-6], [-3], [0], [3]])

    def test_twelve_may_be_named_again_after_it(self):
        twelve = [names(number) for number in range(40, 28, -1)]
        told = ask(twelve + [names(28), BEGINS] + twelve + [names(28)])
        self.assertEqual(told[12:14], [[-5], [0]])
        self.assertEqual(told[14:26], told[:12])
        self.assertEqual(told[26], [-5])

    def test_twice(self):
        self.assertEqual(ask([names(2), BEGINS, BEGINS, names(4)]), [[2], [0], [0], [4]])


if __name__ == "__main__":
    unittest.main()
