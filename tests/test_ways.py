"""Point 3: wayAt, near and more, which speak of a share that is told to them."""

import unittest
from fractions import Fraction

import calls as c
from kindshares.shares import product_of_means

ONE = c.start(100, 1, 5, 9)
TWO = c.start(60, 3, 2, 1, 40, 1, 2, 3)
THREE = c.start(20, 1, 9, 2, 30, 4, 4, 4, 50, 9, 1, 8)
# A share of 1/2 is at rest; from below it is more, from above less.
RESTING = c.start(100, 1, 2, 1)
GREAT = [c.share(47, 97), c.generation(), c.generation(), c.generation()]
# What stands before the call, of which it doesn't speak.
STANDING = ([], [c.share(1, 1)], [c.share(1, 2)], [c.share(1, 100)], GREAT)

NO_SHARES = ((0, 0), (1, 0), (c.GREATEST, 0), (0, 101), (1, 101), (101, 101), (50, 200), (0, c.GREATEST), (2, 1),
             (3, 2), (11, 10), (c.GREATEST, 1), (c.GREATEST, 10), (c.GREATEST, c.GREATEST))


class WayAt(unittest.TestCase):
    def test_more_less_and_the_same(self):
        for standing in STANDING:
            self.assertEqual(c.ask(RESTING, *standing, c.way_at(1, 4), c.way_at(1, 2), c.way_at(3, 4))[-3:],
                             [[0, 1], [0, 0], [0, -1]])

    def test_over_several_places(self):
        # With 3/4: 825 and 625 thousandths are chosen, 60 and 40 hundredths of these are 745 thousandths.
        self.assertEqual(c.ask(TWO, c.way_at(1, 2), c.way_at(3, 4))[1:], [[0, 1], [0, -1]])
        self.assertEqual(c.ask(TWO, c.seeds(0, 1, 10), c.way_at(1, 2), c.seeds(0, 1, 1), c.way_at(1, 2))[1:],
                         [[50], [0, 0], [51], [0, -1]])

    def test_as_way_once_that_is_the_share(self):
        for start in (ONE, TWO, THREE, RESTING):
            for lower in (1, 2, 10, 11, 99, 100):
                for upper in range(lower + 1):
                    parts = c.ask(start, c.way_at(upper, lower), c.share(upper, lower), c.way())
                    self.assertEqual(parts[1], parts[3], (start, upper, lower))

    def test_way_speaks_of_the_share_that_stands(self):
        ready = [c.start(100, 8, 9, 8), c.share(1, 3), c.generation(), c.generation()]
        self.assertEqual(c.ask(*ready, c.way_at(2, 3), c.way(), c.way_at(1, 2), c.way())[4:],
                         [[0, -1], [0, 1], [0, 0], [0, 1]])

    def test_a_share_of_0_and_of_1_is_at_rest(self):
        for start in (ONE, TWO, THREE):
            for lower in (1, 10, 11, 100):
                self.assertEqual(c.ask(start, c.way_at(0, lower), c.way_at(lower, lower))[1:], [[0, 0]] * 2)

    def test_worths_alike(self):
        self.assertEqual(c.last(c.start(60, 1, 1, 1, 40, 9, 9, 9), c.way_at(5, 9)), [0, 0])

    def test_a_place_without_seeds_counts_for_nothing(self):
        self.assertEqual(c.last(c.start(100, 1, 2, 3, 0, 9, 5, 1), c.way_at(1, 2)), [0, -1])

    def test_refused(self):
        for standing in STANDING:
            for x, y in NO_SHARES + ((101, 100), (12, 11)):
                self.assertEqual(c.last(TWO, *standing, c.way_at(x, y)), [-22], (x, y))


class Near(unittest.TestCase):
    def test_at_each_of_the_parts(self):
        for standing in STANDING:
            self.assertEqual(c.ask(RESTING, *standing, c.near(4), c.near(5))[-2:], [[3, 1, 0, -1], [4, 1, 1, -1, -1]])
        self.assertEqual(c.last(TWO, c.near(4)), [3, 1, 1, -1])

    def test_as_way_at_each_of_them(self):
        for start in (ONE, TWO, THREE, RESTING):
            for parts in range(2, 31):
                ways = c.ask(start, *[c.way_at(upper, parts) for upper in range(1, parts)])[1:]
                self.assertEqual(c.last(start, c.near(parts)), [parts - 1] + [way[1] for way in ways])

    def test_2_and_30_parts(self):
        self.assertEqual(c.ask(RESTING, c.near(2), c.near(30))[1:], [[1, 0], [29] + [1] * 14 + [0] + [-1] * 14])
        self.assertEqual(c.ask(ONE, c.near(2), c.near(30))[1:], [[1, -1], [29] + [-1] * 29])

    def test_worths_alike(self):
        self.assertEqual(c.last(c.start(60, 1, 1, 1, 40, 9, 9, 9), c.near(30)), [29] + [0] * 29)

    def test_a_place_without_seeds_counts_for_nothing(self):
        self.assertEqual(c.last(c.start(0, 9, 5, 1, 100, 1, 2, 1), c.near(4)), [3, 1, 0, -1])

    def test_refused(self):
        for standing in STANDING:
            for parts in (0, 1, 31, 32, 100, c.GREATEST):
                self.assertEqual(c.last(TWO, *standing, c.near(parts)), [-22], parts)


class More(unittest.TestCase):
    def test_more_and_the_same(self):
        for standing in STANDING:
            self.assertEqual(c.ask(RESTING, *standing, c.more(1, 4), c.more(1, 2), c.more(3, 4))[-3:],
                             [[0, 1], [0, 0], [0, 1]])

    def test_neither_the_means_together_nor_each_once(self):
        # The means are 1 + 2p and 3 - 2p: always 4 together, and at 1/2 each times the other is greatest.
        self.assertEqual(c.ask(TWO, c.share(1, 2), c.mean(1), c.generation(), c.mean(1), c.more(1, 2))[2:],
                         [[0, 2, 1], [0], [0, 39, 20], [0, 1]])
        self.assertEqual(c.last(TWO, c.seeds(0, 1, 20), c.more(1, 2)), [0, 1])
        self.assertEqual(c.last(TWO, c.seeds(0, 1, 10), c.more(1, 2)), [0, 0])

    def test_each_mean_so_often_as_it_has_seeds(self):
        # With 1/2 the means are 21/4, 4 and 19/4.
        worths = [(1, 9, 2), (4, 4, 4), (9, 1, 8)]
        for seeds in ([20, 30, 50], [0, 100, 0], [1, 0, 99], [33, 33, 34]):
            product = product_of_means((1, 2), seeds, worths)
            powers = [mean ** count for mean, count in zip((Fraction(21, 4), Fraction(4), Fraction(19, 4)), seeds)]
            self.assertEqual(Fraction(product[0], product[1]), powers[0] * powers[1] * powers[2])

    def test_a_share_of_0_and_of_1_is_at_rest(self):
        for start in (ONE, TWO, THREE):
            for lower in (1, 2, 9, 10):
                self.assertEqual(c.ask(start, c.more(0, lower), c.more(lower, lower))[1:], [[0, 0]] * 2)

    def test_one_place(self):
        for upper in range(1, 10):
            self.assertEqual(c.last(ONE, c.more(upper, 10)), [0, 1])

    def test_worths_alike(self):
        self.assertEqual(c.last(c.start(60, 1, 1, 1, 40, 9, 9, 9), c.more(5, 9)), [0, 0])

    def test_a_place_without_seeds_counts_for_nothing(self):
        # There alone the mean would fall: the share goes up by the other place.
        self.assertEqual(c.last(c.start(100, 3, 2, 1, 0, 1, 2, 9), c.more(1, 2)), [0, 1])
        self.assertEqual(c.last(c.start(100, 5, 5, 5, 0, 1, 2, 9), c.more(1, 2)), [0, 0])

    def test_refused(self):
        for standing in STANDING:
            for x, y in NO_SHARES + ((0, 11), (1, 11), (11, 11), (5, 20), (0, 100), (50, 100), (100, 100)):
                self.assertEqual(c.last(TWO, *standing, c.more(x, y)), [-22], (x, y))


if __name__ == "__main__":
    unittest.main()
