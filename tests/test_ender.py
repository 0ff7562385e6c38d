import unittest

from asking import ENDER, SIXTEEN_LEFT, all_named, ask, ask_last, left_by, made_by, names, small_games


def ender(named):
    return ask_last(all_named(named) + [ENDER])


def by_the_words(named):
    left = left_by(named, 200)
    if not left:
        return [-8]
    greatest = left[-1]
    for number in left[:-1]:
        if greatest not in made_by(list(named) + [number], greatest):
            return [0, greatest, number]
    return [1, greatest]


class EnderTest(unittest.TestCase):
    def test_an_ender(self):
        # 2, 4 and 7 are left: 7 is 2 + 5, and 4 + 3.
        self.assertEqual(ender([3, 5]), [1, 7])
        self.assertEqual(ender([4, 5]), [1, 11])
        self.assertEqual(ender([2, 9]), [1, 7])

    def test_an_ender_only_as_one_is_taken_twice(self):
        # 2 and 4 are left: 4 is 2 + 2.
        self.assertEqual(ender([3, 5, 7]), [1, 4])
        # 2, 3, 5, 6, 7, 10 and 14 are left: 14 is 7 + 7.
        self.assertEqual(ender([4, 9, 11]), [1, 14])

    def test_none_with_the_least_other_one(self):
        # 2, 4 and 5 are left: 5 is 2 + 3.
        self.assertEqual(ender([3, 7, 8]), [0, 5, 4])
        # 2 and 3 are left.
        self.assertEqual(ender([4, 5, 6, 7]), [0, 3, 2])
        self.assertEqual(ender([4, 5, 11]), [0, 7, 6])
        # 2, 3 and 4 make 19 by 2 + 2 + 15, 3 + 16 and 4 + 15; 6 doesn't, nor do 13 and 18.
        self.assertEqual(ender([5, 11, 12]), [0, 19, 6])

    def test_the_least_of_several_that_do_not_make_it(self):
        # 2, 3, 5, 6 and 7 are left; neither 2 nor 5 nor 6 makes 7 with them.
        self.assertEqual(ender([4, 9, 10, 11]), [0, 7, 2])
        self.assertEqual(ender([8, 9, 12, 13]), [0, 23, 4])

    def test_one_left(self):
        self.assertEqual(ender([3, 4, 5]), [1, 2])
        self.assertEqual(ender([2, 5]), [1, 3])

    def test_16_left(self):
        self.assertEqual(ender([2, 35]), [1, 33])
        for named in SIXTEEN_LEFT:
            self.assertEqual(len(left_by(named, 200)), 16)
            self.assertEqual(ender(named), by_the_words(named), named)

    def test_against_the_words(self):
        seen = {}
        for named in small_games():
            told = ender(named)
            self.assertEqual(told, by_the_words(named), named)
            seen[told[0]] = True
        self.assertEqual(sorted(seen), [-8, 0, 1])

    def test_of_an_ender_the_greatest_is_made_after_each_other_one(self):
        for named in ([4, 5], [4, 9, 11], [2, 35], [8, 9, 10]):
            told, greatest = ender(named)
            self.assertEqual(told, 1)
            for number in left_by(named, 200)[:-1]:
                self.assertNotIn(greatest, left_by(named + [number], 200))


class RefusalTest(unittest.TestCase):
    def test_none_left(self):
        self.assertEqual(ender([2, 3]), [-8])
        self.assertEqual(ender([3, 4, 5, 2]), [-8])

    def test_all_is_as_it_was_after_it(self):
        told = ask([ENDER, names(2), ENDER, names(37), ENDER, names(5), ENDER, names(3), ENDER, ENDER])
        self.assertEqual(told, [[-6], [2], [-6], [1, 17], [-7], [1, 1], [1, 3], [1, 0], [-8], [-8]])


if __name__ == "__main__":
    unittest.main()
