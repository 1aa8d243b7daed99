"""Points 2 and 4, and way of point 3: what is told of the share and the places as they stand."""

import math
import unittest
from fractions import Fraction

import calls as c

ONE = c.start(100, 1, 5, 9)
TWO = c.start(60, 3, 2, 1, 40, 1, 2, 3)
THREE = c.start(20, 1, 9, 2, 30, 4, 4, 4, 50, 9, 1, 8)
GREAT = [c.start(33, 9, 7, 8, 33, 5, 8, 9, 34, 7, 9, 8), c.share(47, 97), c.generation()]
# Where the worths are 1, 3 and 9 a share of x by y becomes x by 3y - 2x: here it is 1 by 216514 in the end.
SMALL = [c.start(0, 9, 9, 9, 100, 1, 3, 9), c.share(1, 100), *([c.generation()] * 7)]


class Told(unittest.TestCase):
    def test_the_share(self):
        self.assertEqual(c.ask(TWO, c.told(), c.share(6, 8), c.told(), c.told()),
                         [[2], [0, 0, 1], [0], [0, 3, 4], [0, 3, 4]])


class Mean(unittest.TestCase):
    def test_at_each_place(self):
        # With 1/3: a/9 + 4b/9 + 4c/9.
        self.assertEqual(c.ask(THREE, c.share(1, 3), c.mean(0), c.mean(1), c.mean(2))[2:],
                         [[0, 5, 1], [0, 4, 1], [0, 5, 1]])
        self.assertEqual(c.ask(ONE, c.share(2, 5), c.mean(0))[2:], [[0, 29, 5]])
        self.assertEqual(c.ask(ONE, c.worths(0, 2, 5, 9), c.share(2, 5), c.mean(0))[3:], [[0, 149, 25]])

    def test_a_share_of_0_and_of_1(self):
        self.assertEqual(c.ask(TWO, c.mean(0), c.mean(1))[1:], [[0, 1, 1], [0, 3, 1]])
        self.assertEqual(c.ask(TWO, c.share(1, 1), c.mean(0), c.mean(1))[2:], [[0, 3, 1], [0, 1, 1]])

    def test_worths_alike(self):
        self.assertEqual(c.last(c.start(100, 7, 7, 7), c.share(13, 99), c.mean(0)), [0, 7, 1])

    def test_a_place_without_seeds_has_a_mean(self):
        self.assertEqual(c.last(c.start(100, 1, 1, 1, 0, 3, 2, 1), c.share(1, 2), c.mean(1)), [0, 2, 1])

    def test_no_such_place(self):
        for start, places in ((ONE, 1), (TWO, 2), (THREE, 3)):
            self.assertEqual(c.ask(start, c.mean(places), c.mean(places + 1), c.mean(c.GREATEST))[1:], [[-2]] * 3)


class Kinds(unittest.TestCase):
    def test_at_each_place(self):
        # With 1/3: a/3 + 2b/3, then b/3 + 2c/3.
        self.assertEqual(c.ask(THREE, c.share(1, 3), c.kinds(0), c.kinds(1), c.kinds(2))[2:],
                         [[0, 19, 3, 13, 3], [0, 4, 1, 4, 1], [0, 11, 3, 17, 3]])

    def test_a_share_of_0_and_of_1(self):
        self.assertEqual(c.ask(ONE, c.kinds(0), c.share(1, 1), c.kinds(0)),
                         [[1], [0, 5, 1, 9, 1], [0], [0, 1, 1, 5, 1]])

    def test_a_place_without_seeds_has_worths(self):
        self.assertEqual(c.last(c.start(100, 1, 1, 1, 0, 3, 2, 1), c.share(1, 2), c.kinds(1)), [0, 5, 2, 3, 2])

    def test_each_in_lowest_terms(self):
        self.assertEqual(c.last(c.start(100, 2, 6, 4), c.share(1, 4), c.kinds(0)), [0, 5, 1, 9, 2])

    def test_no_such_place(self):
        for start, places in ((ONE, 1), (TWO, 2), (THREE, 3)):
            self.assertEqual(c.ask(start, c.kinds(places), c.kinds(places + 1), c.kinds(c.GREATEST))[1:], [[-2]] * 3)


class After(unittest.TestCase):
    def test_0_1_and_2_generations_on(self):
        # A share p becomes 2p by 1 + 2p - pp here.
        self.assertEqual(c.ask(c.start(100, 2, 2, 1), c.share(1, 2), c.after(0), c.after(1), c.after(2))[2:],
                         [[0, 1, 2], [0, 4, 7], [0, 56, 89]])

    def test_3_and_more_are_refused(self):
        for generations in (3, 4, 100, c.GREATEST):
            self.assertEqual(c.last(TWO, c.share(1, 2), c.after(generations)), [-22])

    def test_no_generation_goes_by(self):
        self.assertEqual(c.ask(TWO, c.share(1, 2), c.after(2), c.after(1), c.told())[3:], [[0, 21, 40], [0, 1, 2]])

    def test_as_so_many_generations_that_go_by(self):
        for start in (ONE, TWO, THREE):
            parts = c.ask(start, c.share(1, 2), c.after(1), c.after(2),
                          c.generation(), c.told(), c.generation(), c.told())
            self.assertEqual(parts[5:], [parts[2], [0], parts[3]])

    def test_a_share_of_0_and_of_1(self):
        self.assertEqual(c.ask(TWO, c.after(1), c.after(2))[1:], [[0, 0, 1]] * 2)
        self.assertEqual(c.ask(TWO, c.share(1, 1), c.after(1), c.after(2))[2:], [[0, 1, 1]] * 2)

    def test_a_lower_number_above_100000_will_do(self):
        ready = [c.start(10, 3, 7, 9, 90, 1, 1, 1), c.share(5, 33), c.generation()]
        self.assertEqual(c.ask(*ready, c.generation(), c.after(0))[3:], [[-28], [0, 14797, 100001]])
        self.assertEqual([part[0] for part in c.ask(*ready, c.after(1), c.after(2))], [2, 0, 0, 0, 0])

    def test_great_numbers_are_in_lowest_terms_and_not_rounded(self):
        parts = c.ask(*GREAT, c.told(), c.after(1), c.after(2))
        for part in parts[3:]:
            self.assertEqual(math.gcd(part[1], part[2]), 1)
        self.assertEqual(parts[3], [0, 41450889072679, 89479365356430])
        self.assertGreater(parts[4][2], 10 ** 50)
        self.assertGreater(parts[5][2], 10 ** 300)


class Way(unittest.TestCase):
    def test_more_less_and_the_same(self):
        self.assertEqual(c.last(c.start(100, 3, 2, 1), c.share(1, 2), c.way()), [0, 1])
        self.assertEqual(c.last(c.start(100, 1, 2, 3), c.share(1, 2), c.way()), [0, -1])
        self.assertEqual(c.last(c.start(100, 1, 2, 1), c.share(1, 2), c.way()), [0, 0])

    def test_over_several_places(self):
        self.assertEqual(c.last(TWO, c.share(1, 2), c.way()), [0, 1])
        self.assertEqual(c.last(TWO, c.seeds(0, 1, 10), c.share(1, 2), c.way()), [0, 0])
        self.assertEqual(c.last(TWO, c.seeds(0, 1, 11), c.share(1, 2), c.way()), [0, -1])
        self.assertEqual(c.last(THREE, c.share(1, 2), c.way()), [0, 1])

    def test_a_share_of_0_and_of_1_is_at_rest(self):
        for start in (ONE, TWO, THREE):
            self.assertEqual(c.ask(start, c.way(), c.share(1, 1), c.way())[1:], [[0, 0], [0], [0, 0]])

    def test_worths_alike(self):
        self.assertEqual(c.last(c.start(60, 1, 1, 1, 40, 9, 9, 9), c.share(5, 9), c.way()), [0, 0])

    def test_a_place_without_seeds_counts_for_nothing(self):
        self.assertEqual(c.last(c.start(100, 1, 2, 3, 0, 9, 5, 1), c.share(1, 2), c.way()), [0, -1])

    def test_no_generation_goes_by(self):
        self.assertEqual(c.ask(TWO, c.share(1, 2), c.way(), c.told())[2:], [[0, 1], [0, 1, 2]])

    def test_a_lower_number_above_100000_will_do(self):
        parts = c.ask(*GREAT, c.generation(), c.way())
        self.assertEqual(parts[3], [-28])
        self.assertEqual(parts[4][0], 0)

    def test_ever_so_little_counts(self):
        # Both kinds rest at 1/2; a generation from 50/99 brings the share nearer to it, never over it.
        ready = [c.start(100, 8, 9, 8), c.share(50, 99), c.generation()]
        self.assertEqual(c.ask(*ready, c.way())[3:], [[0, -1]])
        self.assertEqual(c.ask(c.start(100, 8, 9, 8), c.share(49, 99), c.generation(), c.way())[3:], [[0, 1]])


class AtPlace(unittest.TestCase):
    def test_at_each_place(self):
        # With 1/2: 1/2 times 5 by 21/4, 1/2 times 4 by 4, 1/2 times 5 by 19/4.
        self.assertEqual(c.ask(THREE, c.share(1, 2), c.at_place(0), c.at_place(1), c.at_place(2))[2:],
                         [[0, 10, 21], [0, 1, 2], [0, 10, 19]])
        # With 1/3: 1/3 times 19/3 by 5, 1/3 times 11/3 by 5.
        self.assertEqual(c.ask(THREE, c.share(1, 3), c.at_place(0), c.at_place(2))[2:], [[0, 19, 45], [0, 11, 45]])

    def test_the_seeds_have_no_say(self):
        ready = [TWO, c.share(1, 2)]
        self.assertEqual(c.ask(*ready, c.at_place(0), c.seeds(0, 1, 60), c.at_place(0))[2:],
                         [[0, 5, 8], [100], [0, 5, 8]])

    def test_a_place_without_seeds_chooses_too(self):
        self.assertEqual(c.last(c.start(100, 1, 1, 1, 0, 3, 2, 1), c.share(1, 2), c.at_place(1)), [0, 5, 8])

    def test_one_place_chooses_the_next_share(self):
        for upper in range(8):
            parts = c.ask(ONE, c.share(upper, 7), c.at_place(0), c.after(1))
            self.assertEqual(parts[2], parts[3])

    def test_a_share_of_0_and_of_1(self):
        for place in range(3):
            self.assertEqual(c.ask(THREE, c.at_place(place), c.share(1, 1), c.at_place(place)),
                             [[3], [0, 0, 1], [0], [0, 1, 1]])

    def test_worths_alike(self):
        self.assertEqual(c.last(c.start(100, 7, 7, 7), c.share(13, 99), c.at_place(0)), [0, 13, 99])

    def test_the_share_that_stands_has_great_numbers(self):
        self.assertEqual(c.ask(*SMALL, c.told(), c.generation(), c.at_place(0), c.at_place(1))[9:],
                         [[0, 1, 216514], [-28], [0, 1, 216514], [0, 1, 649540]])
        chosen = c.ask(*GREAT, c.at_place(0), c.at_place(1), c.at_place(2), c.after(1))[3:]
        shares = [Fraction(part[1], part[2]) for part in chosen]
        self.assertEqual(sum(n * share for n, share in zip((33, 33, 34), shares)), 100 * shares[3])
        for part in chosen:
            self.assertEqual(math.gcd(part[1], part[2]), 1)

    def test_no_such_place(self):
        for start, places in ((ONE, 1), (TWO, 2), (THREE, 3)):
            self.assertEqual(c.ask(start, c.at_place(places), c.at_place(places + 1), c.at_place(c.GREATEST))[1:],
                             [[-2]] * 3)


class Best(unittest.TestCase):
    def test_the_place_whose_mean_is_greatest(self):
        # The means are 1 + 2p and 3 - 2p.
        self.assertEqual(c.ask(TWO, c.best(), c.share(49, 100), c.best(), c.share(51, 100), c.best(), c.share(1, 1),
                               c.best())[1:], [[1], [0], [1], [0], [0], [0], [0]])
        # With 1/2 they are 21/4, 4 and 19/4.
        self.assertEqual(c.last(THREE, c.share(1, 2), c.best()), [0])
        self.assertEqual(c.last(THREE, c.share(1, 2), c.worths(1, 9, 9, 8), c.best()), [1])
        self.assertEqual(c.last(THREE, c.share(1, 2), c.worths(2, 9, 9, 8), c.best()), [2])

    def test_the_first_of_those_with_the_same_mean(self):
        self.assertEqual(c.last(TWO, c.share(1, 2), c.best()), [0])
        # With 1/3 the means are 5, 4, 5.
        self.assertEqual(c.last(THREE, c.share(1, 3), c.best()), [0])
        self.assertEqual(c.last(c.start(20, 1, 1, 1, 30, 5, 5, 5, 50, 5, 5, 5), c.share(1, 3), c.best()), [1])
        self.assertEqual(c.last(c.start(20, 5, 5, 5, 30, 5, 5, 5, 50, 5, 5, 5), c.share(1, 3), c.best()), [0])

    def test_one_place(self):
        self.assertEqual(c.ask(ONE, c.best(), c.share(1, 2), c.best())[1:], [[0], [0], [0]])

    def test_a_place_without_seeds_may_be_the_best(self):
        self.assertEqual(c.last(c.start(100, 1, 2, 3, 0, 9, 9, 9), c.best()), [1])
        self.assertEqual(c.last(c.start(0, 9, 9, 9, 100, 1, 2, 3), c.best()), [0])

    def test_the_share_that_stands_has_great_numbers(self):
        # With 1 by 216514 the mean there is a little below 9.
        self.assertEqual(c.ask(*SMALL, c.mean(1), c.best(), c.share(0, 1), c.best())[9:],
                         [[0, 324770 ** 2, 108257 ** 2], [0], [0], [0]])
        swapped = [c.start(100, 1, 3, 9, 0, 9, 9, 9), *SMALL[1:]]
        self.assertEqual(c.ask(*swapped, c.best(), c.share(0, 1), c.best())[9:], [[1], [0], [0]])


class Place(unittest.TestCase):
    def test_its_seeds_and_its_worths(self):
        self.assertEqual(c.ask(THREE, c.place(0), c.place(1), c.place(2))[1:],
                         [[20, 1, 9, 2], [30, 4, 4, 4], [50, 9, 1, 8]])
        self.assertEqual(c.last(ONE, c.place(0)), [100, 1, 5, 9])

    def test_as_they_stand_now(self):
        changed = [THREE, c.seeds(0, 2, 20), c.worths(1, 7, 8, 9), c.worths(2, 3, 2, 1), c.generation()]
        self.assertEqual(c.ask(*changed, c.place(0), c.place(1), c.place(2))[5:],
                         [[0, 1, 9, 2], [30, 7, 8, 9], [70, 3, 2, 1]])
        self.assertEqual(c.ask(*changed, TWO, c.place(0), c.place(1), c.place(2))[6:],
                         [[60, 3, 2, 1], [40, 1, 2, 3], [-2]])

    def test_no_such_place(self):
        for start, places in ((ONE, 1), (TWO, 2), (THREE, 3)):
            self.assertEqual(c.ask(start, c.place(places), c.place(places + 1), c.place(c.GREATEST))[1:], [[-2]] * 3)


class State(unittest.TestCase):
    def test_how_many_places_and_all_seeds(self):
        for start, places in ((ONE, 1), (TWO, 2), (THREE, 3), (c.start(0, 1, 1, 1, 100, 9, 9, 9), 2)):
            self.assertEqual(c.last(start, c.state()), [places, 100])

    def test_whatever_was_done(self):
        changed = [THREE, c.seeds(0, 2, 20), c.share(1, 2), c.generation(), c.worths(0, 1, 1, 1)]
        self.assertEqual(c.last(*changed, c.state()), [3, 100])
        self.assertEqual(c.ask(THREE, ONE, c.state(), c.start(99, 1, 1, 1), c.state())[2:], [[1, 100], [-22], [1, 100]])


if __name__ == "__main__":
    unittest.main()
