"""The refusals that wins, worth and ender share."""

import unittest

from asking import BEGINS, ENDER, SEVENTEEN_LEFT, SIXTEEN_LEFT, WINS, WORTH, all_named, ask, ask_last, left_by


class RefusalTest(unittest.TestCase):
    def refused_of(self, named, refusal):
        for call in (WINS, WORTH, ENDER):
            self.assertEqual(ask_last(all_named(named) + [call]), [refusal], (named, call))

    def test_none_named(self):
        self.refused_of([], -6)

    def test_none_named_behind_begins(self):
        for call in (WINS, WORTH, ENDER):
            self.assertEqual(ask(all_named([2, 3]) + [BEGINS, call])[2:], [[0], [-6]], call)

    def test_one_named(self):
        for number in range(2, 41):
            self.refused_of([number], -6)

    def test_a_common_divisor(self):
        self.refused_of([6, 4], -6)
        self.refused_of([6, 10], -6)
        self.refused_of([40, 38, 36], -6)
        self.refused_of([39, 26], -6)

    def test_17_left(self):
        for named in SEVENTEEN_LEFT:
            self.assertEqual(len(left_by(named, 200)), 17)
            self.refused_of(named, -7)

    def test_16_left_is_not_refused(self):
        for named in SIXTEEN_LEFT:
            self.assertEqual(len(left_by(named, 200)), 16)
            for call in (WINS, WORTH, ENDER):
                self.assertGreaterEqual(ask_last(all_named(named) + [call])[0], 0, (named, call))

    def test_many_left(self):
        self.refused_of([40, 39], -7)
        self.refused_of(list(range(40, 28, -1)), -7)

    def test_the_one_told_first(self):
        # More than 16 are left by these, too.
        self.refused_of([40, 20], -6)
        self.refused_of([33, 36, 39], -6)


if __name__ == "__main__":
    unittest.main()
