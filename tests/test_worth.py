import unittest

from asking import (SIXTEEN_LEFT, WINS, WORTH, all_named, ask, ask_last, left_by, names, plain_worth,
                    small_games)


def worth(named):
    return ask_last(all_named(named) + [WORTH])


class WorthTest(unittest.TestCase):
    def test_none_left(self):
        self.assertEqual(worth([2, 3]), [0])
        self.assertEqual(worth([3, 4, 5, 2]), [0])

    def test_one_left(self):
        self.assertEqual(worth([3, 4, 5]), [1])
        self.assertEqual(worth([2, 5]), [1])

    def test_by_hand(self):
        # 2 and 4 are left: by 2 it's worth 0, by 4 it's worth 1.
        self.assertEqual(worth([3, 5, 7]), [2])
        # 2 and 5 are left: by 2 it's worth 0, by 5 it's worth 1.
        self.assertEqual(worth([3, 4]), [2])
        # 2 and 3 are left: by each it's worth 1.
        self.assertEqual(worth([4, 5, 6, 7]), [0])
        # 2, 4 and 5 are left: by 2 it's worth 0, by 4 and by 5 it's worth 2.
        self.assertEqual(worth([3, 7, 8]), [1])
        # 2, 3 and 4 are left: by 2 it's worth 1, by 3 it's worth 2, by 4 it's worth 0.
        self.assertEqual(worth([5, 6, 7, 8, 9]), [3])

    def test_where_2_is_named(self):
        # By each odd number that's left just those below it are left still.
        for last in range(3, 37, 2):
            self.assertEqual(worth([2, last]), [(last - 3) // 2])

    def test_16_left(self):
        self.assertEqual(worth([2, 35]), [16])
        known = {}
        for named in SIXTEEN_LEFT:
            self.assertEqual(len(left_by(named, 200)), 16)
            self.assertEqual(worth(named), [plain_worth(list(named), known)], named)

    def test_in_whatever_order_they_were_named(self):
        for named in SIXTEEN_LEFT:
            self.assertEqual(worth(named), worth(named[::-1]))

    def test_against_a_plain_search(self):
        known = {}
        for named in small_games():
            self.assertEqual(worth(named), [plain_worth(named, known)], named)

    def test_none_of_the_worths_that_it_becomes_and_each_below_it(self):
        for named in ([4, 9, 11], [8, 9, 13], [5, 7, 8], [2, 35], [6, 11, 20]):
            become = [worth(named + [number])[0] for number in left_by(named, 200)]
            told = worth(named)[0]
            self.assertNotIn(told, become)
            self.assertEqual(set(range(told)) - set(become), set())

    def test_0_just_where_whoever_is_to_name_does_not_win(self):
        seen = {}
        for named in small_games() + [list(named) for named in SIXTEEN_LEFT]:
            told = ask(all_named(named) + [WORTH, WINS])
            self.assertEqual(told[-2] == [0], told[-1] == [0], named)
            seen[told[-1] == [0]] = True
        self.assertEqual(sorted(seen), [False, True])


class RefusalTest(unittest.TestCase):
    def test_all_is_as_it_was_after_it(self):
        told = ask([WORTH, names(2), WORTH, names(37), WORTH, names(35), WORTH])
        self.assertEqual(told, [[-6], [2], [-6], [1, 17], [-7], [1, 16], [16]])


if __name__ == "__main__":
    unittest.main()
