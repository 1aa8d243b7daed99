"""Points 2 and 3: told, mean, kinds, after, way."""

import math
import unittest

import calls as c

ONE = c.start(100, 1, 5, 9)
TWO = c.start(60, 3, 2, 1, 40, 1, 2, 3)
THREE = c.start(20, 1, 9, 2, 30, 4, 4, 4, 50, 9, 1, 8)
GREAT = [c.start(33, 9, 7, 8, 33, 5, 8, 9, 34, 7, 9, 8), c.share(47, 97), c.generation()]


class Told(unittest.TestCase):
    def test_the_share(self):
        self.assertEqual(c.ask(TWO, c.told(), c.share(6, 8), c.told(), c.told()),
                         [[2], [0, 0, 1], [0], [0, 3, 4], [0, 3, 4]])


class Mean(unittest.TestCase):
    def test_at_each_place(self):
        # With 1/3: a/9 + 4b/9 + 4c/9.
        self.assertEqual(c.ask(THREE, c.share(1, 3), c.mean(0), c.mean(1), c.mean(2))[2:],
                         [[0, 5, 1], [0, 4, 1], [0, 5, 1]])
        self.assertEqual(c.ask(ONE, c.share(2, 5), c.mean(0))[2:], [[0, 29, 5]])
        self.assertEqual(c.ask(ONE, c.worths(0, 2, 5, 9), c.share(2, 5), c.mean(0))[3:], [[0, 149, 25]])

    def test_a_share_of_0_and_of_1(self):
        self.assertEqual(c.ask(TWO, c.mean(0), c.mean(1))[1:], [[0, 1, 1], [0, 3, 1]])
        self.assertEqual(c.ask(TWO, c.share(1, 1), c.mean(0), c.mean(1))[2:], [[0, 3, 1], [0, 1, 1]])

    def test_worths_alike(self):
        self.assertEqual(c.last(c.start(100, 7, 7, 7), c.share(13, 99), c.mean(0)), [0, 7, 1])

    def test_a_place_without_seeds_has_a_mean(self):
        self.assertEqual(c.last(c.start(100, 1, 1, 1, 0, 3, 2, 1), c.share(1, 2), c.mean(1)), [0, 2, 1])

    def test_no_such_place(self):
        for start, places in ((ONE, 1), (TWO, 2), (THREE, 3)):
            self.assertEqual(c.ask(start, c.mean(places), c.mean(places + 1), c.mean(c.GREATEST))[1:], [[-2]] * 3)


class Kinds(unittest.TestCase):
    def test_at_each_place(self):
        # With 1/3: a/3 + 2b/3, then b/3 + 2c/3.
        self.assertEqual(c.ask(THREE, c.share(1, 3), c.kinds(0), c.kinds(1), c.kinds(2))[2:],
                         [[0, 19, 3, 13, 3], [0, 4, 1, 4, 1], [0, 11, 3, 17, 3]])

    def test_a_share_of_0_and_of_1(self):
        self.assertEqual(c.ask(ONE, c.kinds(0), c.share(1, 1), c.kinds(0)),
                         [[1], [0, 5, 1, 9, 1], [0], [0, 1, 1, 5, 1]])

    def test_a_place_without_seeds_has_worths(self):
        self.assertEqual(c.last(c.start(100, 1, 1, 1, 0, 3, 2, 1), c.share(1, 2), c.kinds(1)), [0, 5, 2, 3, 2])

    def test_each_in_lowest_terms(self):
        self.assertEqual(c.last(c.start(100, 2, 6, 4), c.share(1, 4), c.kinds(0)), [0, 5, 1, 9, 2])

    def test_no_such_place(self):
        for start, places in ((ONE, 1), (TWO, 2), (THREE, 3)):
            self.assertEqual(c.ask(start, c.kinds(places), c.kinds(places + 1), c.kinds(c.GREATEST))[1:], [[-2]] * 3)


class After(unittest.TestCase):
    def test_0_1_and_2_generations_on(self):
        # A share p becomes 2p by 1 + 2p - pp here.
        self.assertEqual(c.ask(c.start(100, 2, 2, 1), c.share(1, 2), c.after(0), c.after(1), c.after(2))[2:],
                         [[0, 1, 2], [0, 4, 7], [0, 56, 89]])

    def test_3_and_more_are_refused(self):
        for generations in (3, 4, 100, c.GREATEST):
            self.assertEqual(c.last(TWO, c.share(1, 2), c.after(generations)), [-22])

    def test_no_generation_goes_by(self):
        self.assertEqual(c.ask(TWO, c.share(1, 2), c.after(2), c.after(1), c.told())[3:], [[0, 21, 40], [0, 1, 2]])

    def test_as_so_many_generations_that_go_by(self):
        for start in (ONE, TWO, THREE):
            parts = c.ask(start, c.share(1, 2), c.after(1), c.after(2),
                          c.generation(), c.told(), c.generation(), c.told())
            self.assertEqual(parts[5:], [parts[2], [0], parts[3]])

    def test_a_share_of_0_and_of_1(self):
        self.assertEqual(c.ask(TWO, c.after(1), c.after(2))[1:], [[0, 0, 1]] * 2)
        self.assertEqual(c.ask(TWO, c.share(1, 1), c.after(1), c.after(2))[2:], [[0, 1, 1]] * 2)

    def test_a_lower_number_above_100000_will_do(self):
        ready = [c.start(10, 3, 7, 9, 90, 1, 1, 1), c.share(5, 33), c.generation()]
        self.assertEqual(c.ask(*ready, c.generation(), c.after(0))[3:], [[-28], [0, 14797, 100001]])
        self.assertEqual([part[0] for part in c.ask(*ready, c.after(1), c.after(2))], [2, 0, 0, 0, 0])

    def test_great_numbers_are_in_lowest_terms_and_not_rounded(self):
        parts = c.ask(*GREAT, c.told(), c.after(1), c.after(2))
        for part in parts[3:]:
            self.assertEqual(math.gcd(part[1], part[2]), 1)
        self.assertEqual(parts[3], [0, 41450889072679, 89479365356430])
        self.assertGreater(parts[4][2], 10 ** 50)
        self.assertGreater(parts[5][2], 10 ** 300)


class Way(unittest.TestCase):
    def test_more_less_and_the_same(self):
        self.assertEqual(c.last(c.start(100, 3, 2, 1), c.share(1, 2), c.way()), [0, 1])
        self.assertEqual(c.last(c.start(100, 1, 2, 3), c.share(1, 2), c.way()), [0, -1])
        self.assertEqual(c.last(c.start(100, 1, 2, 1), c.share(1, 2), c.way()), [0, 0])

    def test_over_several_places(self):
        self.assertEqual(c.last(TWO, c.share(1, 2), c.way()), [0, 1])
        self.assertEqual(c.last(TWO, c.seeds(0, 1, 10), c.share(1, 2), c.way()), [0, 0])
        self.assertEqual(c.last(TWO, c.seeds(0, 1, 11), c.share(1, 2), c.way()), [0, -1])
        self.assertEqual(c.last(THREE, c.share(1, 2), c.way()), [0, 1])

    def test_a_share_of_0_and_of_1_is_at_rest(self):
        for start in (ONE, TWO, THREE):
            self.assertEqual(c.ask(start, c.way(), c.share(1, 1), c.way())[1:], [[0, 0], [0], [0, 0]])

    def test_worths_alike(self):
        self.assertEqual(c.last(c.start(60, 1, 1, 1, 40, 9, 9, 9), c.share(5, 9), c.way()), [0, 0])

    def test_a_place_without_seeds_counts_for_nothing(self):
        self.assertEqual(c.last(c.start(100, 1, 2, 3, 0, 9, 5, 1), c.share(1, 2), c.way()), [0, -1])

    def test_no_generation_goes_by(self):
        self.assertEqual(c.ask(TWO, c.share(1, 2), c.way(), c.told())[2:], [[0, 1], [0, 1, 2]])

    def test_a_lower_number_above_100000_will_do(self):
        parts = c.ask(*GREAT, c.generation(), c.way())
        self.assertEqual(parts[3], [-28])
        self.assertEqual(parts[4][0], 0)

    def test_ever_so_little_counts(self):
        # Both kinds rest at 1/2; a generation from 50/99 brings the share nearer to it, never over it.
        ready = [c.start(100, 8, 9, 8), c.share(50, 99), c.generation()]
        self.assertEqual(c.ask(*ready, c.way())[3:], [[0, -1]])
        self.assertEqual(c.ask(c.start(100, 8, 9, 8), c.share(49, 99), c.generation(), c.way())[3:], [[0, 1]])


if __name__ == "__main__":
    unittest.main()
