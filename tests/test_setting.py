"""Point 1: start, seeds, worths, share, next."""

import unittest

import calls as c

ONE = c.start(100, 1, 5, 9)
TWO = c.start(60, 3, 2, 1, 40, 1, 2, 3)
THREE = c.start(20, 1, 9, 2, 30, 4, 4, 4, 50, 9, 1, 8)


class Refusals(unittest.TestCase):
    def refused(self, number, call, start=TWO, places=2):
        """The call is refused by that number, and everything stays as it was."""
        shown = c.everything(places)
        ready = [start, c.share(1, 3)]
        plain = c.ask(*ready, *shown)
        self.assertEqual(c.ask(*ready, call, *shown), plain[:2] + [[number]] + plain[2:], call)


class Start(Refusals):
    def test_one_two_and_three_places(self):
        self.assertEqual(c.last(ONE), [1])
        self.assertEqual(c.last(TWO), [2])
        self.assertEqual(c.last(THREE), [3])

    def test_a_place_without_seeds(self):
        self.assertEqual(c.last(c.start(0, 1, 1, 1, 100, 9, 9, 9)), [2])
        self.assertEqual(c.last(c.start(0, 1, 2, 3, 0, 4, 5, 6, 100, 7, 8, 9)), [3])

    def test_the_worths_stand_in_their_order(self):
        self.assertEqual(c.ask(THREE, c.worths(0, 1, 1, 1), c.worths(1, 1, 1, 1), c.worths(2, 1, 1, 1))[1:],
                         [[1, 9, 2], [4, 4, 4], [9, 1, 8]])

    def test_the_share_is_0(self):
        self.assertEqual(c.ask(TWO, c.told()), [[2], [0, 0, 1]])

    def test_a_second_start_sets_all_anew(self):
        plain = c.ask(ONE, *c.everything(1), c.mean(1))
        changed = [THREE, c.share(1, 2), c.seeds(0, 1, 7), c.worths(0, 9, 9, 9), c.generation()]
        self.assertEqual(c.ask(*changed, ONE, *c.everything(1), c.mean(1))[5:], plain)
        self.assertEqual(plain[-1], [-2])

    def test_not_four_each_for_one_to_three_places(self):
        self.refused(-22, c.start())
        self.refused(-22, c.start(100))
        self.refused(-22, c.start(100, 1, 1))
        self.refused(-22, c.start(100, 1, 1, 1, 0))
        self.refused(-22, c.start(60, 1, 1, 1, 40, 1, 1))
        self.refused(-22, c.start(60, 1, 1, 1, 40, 1, 1, 1, 0, 1, 1))
        self.refused(-22, c.start(*([25, 1, 1, 1] * 4)))
        self.refused(-22, c.start(*([50, 1, 1, 1] * 2 + [0, 1, 1, 1] * 13)))

    def test_a_worth_is_not_1_to_9(self):
        for at in (1, 2, 3, 5, 6, 7):
            for worth in (0, 10, c.GREATEST):
                row = [60, 3, 2, 1, 40, 1, 2, 3]
                row[at] = worth
                self.refused(-22, c.start(*row))

    def test_a_worth_of_a_place_without_seeds_counts_too(self):
        self.refused(-22, c.start(100, 1, 1, 1, 0, 1, 0, 1))
        self.refused(-22, c.start(100, 1, 1, 1, 0, 1, 1, 10))

    def test_worths_of_1_and_9_will_do(self):
        self.assertEqual(c.last(c.start(50, 1, 1, 1, 50, 9, 9, 9)), [2])

    def test_the_seeds_are_not_100_together(self):
        self.refused(-22, c.start(99, 1, 1, 1))
        self.refused(-22, c.start(101, 1, 1, 1))
        self.refused(-22, c.start(0, 1, 1, 1))
        self.refused(-22, c.start(60, 1, 1, 1, 41, 1, 1, 1))
        self.refused(-22, c.start(60, 1, 1, 1, 39, 1, 1, 1))
        self.refused(-22, c.start(100, 1, 1, 1, 100, 1, 1, 1))
        self.refused(-22, c.start(c.GREATEST, 1, 1, 1, 101, 1, 1, 1))
        self.refused(-22, c.start(c.GREATEST, 1, 1, 1, c.GREATEST, 1, 1, 1, 102, 1, 1, 1))


class Seeds(Refusals):
    def test_how_many_come_to_the_place_that_takes(self):
        self.assertEqual(c.ask(TWO, c.seeds(0, 1, 10), c.seeds(1, 0, 5), c.seeds(0, 1, 55))[1:], [[50], [55], [100]])

    def test_all_of_them_and_then_none_is_left(self):
        self.assertEqual(c.ask(TWO, c.seeds(0, 1, 60), c.seeds(0, 1, 1), c.seeds(1, 0, 100))[1:], [[100], [-12], [100]])

    def test_three_places(self):
        self.assertEqual(c.ask(THREE, c.seeds(2, 0, 50), c.seeds(1, 2, 1), c.seeds(0, 1, 70))[1:], [[70], [1], [99]])

    def test_moved_seeds_stand_as_if_started_so(self):
        plain = c.ask(c.start(45, 3, 2, 1, 55, 1, 2, 3), c.share(2, 7), *c.everything(2))
        self.assertEqual(c.ask(TWO, c.share(2, 7), c.seeds(0, 1, 15), *c.everything(2))[3:], plain[2:])

    def test_no_such_place(self):
        self.refused(-2, c.seeds(2, 0, 1))
        self.refused(-2, c.seeds(0, 2, 1))
        self.refused(-2, c.seeds(c.GREATEST, 0, 1))
        self.refused(-2, c.seeds(0, c.GREATEST, 1))
        self.refused(-2, c.seeds(0, 1, 1), start=ONE, places=1)
        self.refused(-2, c.seeds(3, 0, 1), start=THREE, places=3)

    def test_none_or_to_the_same_place(self):
        self.refused(-22, c.seeds(0, 1, 0))
        self.refused(-22, c.seeds(0, 0, 1))
        self.refused(-22, c.seeds(1, 1, 40))
        self.refused(-22, c.seeds(0, 0, 1), start=ONE, places=1)

    def test_fewer_come_to_the_place_that_gives(self):
        self.refused(-12, c.seeds(0, 1, 61))
        self.refused(-12, c.seeds(1, 0, 41))
        self.refused(-12, c.seeds(0, 1, c.GREATEST))

    def test_the_first_named_is_answered(self):
        self.refused(-2, c.seeds(2, 2, 0))
        self.refused(-2, c.seeds(2, 0, 0))
        self.refused(-2, c.seeds(0, 2, 0))
        self.refused(-2, c.seeds(0, 2, 61))
        self.refused(-22, c.seeds(0, 0, 61))
        self.refused(-22, c.seeds(1, 1, 0))


class Worths(Refusals):
    def test_what_they_were_is_answered(self):
        self.assertEqual(c.ask(TWO, c.worths(0, 4, 5, 6), c.worths(0, 7, 8, 9), c.worths(1, 9, 1, 9))[1:],
                         [[3, 2, 1], [4, 5, 6], [1, 2, 3]])

    def test_told_worths_stand_as_if_started_so(self):
        plain = c.ask(c.start(60, 3, 2, 1, 40, 9, 1, 5), c.share(2, 7), *c.everything(2))
        self.assertEqual(c.ask(TWO, c.share(2, 7), c.worths(1, 9, 1, 5), *c.everything(2))[3:], plain[2:])

    def test_1_and_9_will_do(self):
        self.assertEqual(c.ask(ONE, c.worths(0, 1, 1, 1), c.worths(0, 9, 9, 9), c.worths(0, 2, 2, 2))[1:],
                         [[1, 5, 9], [1, 1, 1], [9, 9, 9]])

    def test_no_such_place(self):
        self.refused(-2, c.worths(2, 1, 1, 1))
        self.refused(-2, c.worths(c.GREATEST, 1, 1, 1))
        self.refused(-2, c.worths(1, 1, 1, 1), start=ONE, places=1)
        self.refused(-2, c.worths(3, 1, 1, 1), start=THREE, places=3)

    def test_one_is_not_1_to_9(self):
        for worth in (0, 10, c.GREATEST):
            self.refused(-22, c.worths(0, worth, 1, 1))
            self.refused(-22, c.worths(0, 1, worth, 1))
            self.refused(-22, c.worths(1, 1, 1, worth))

    def test_the_first_named_is_answered(self):
        self.refused(-2, c.worths(2, 0, 1, 10))


class Share(Refusals):
    def test_a_share_is_set_in_lowest_terms(self):
        for given, kept in (((1, 2), (1, 2)), ((2, 4), (1, 2)), ((60, 100), (3, 5)), ((99, 100), (99, 100)),
                            ((37, 97), (37, 97)), ((64, 96), (2, 3))):
            self.assertEqual(c.ask(TWO, c.share(*given), c.told())[1:], [[0], [0, *kept]])

    def test_a_share_of_0_and_of_1(self):
        for lower in (1, 2, 99, 100):
            self.assertEqual(c.ask(TWO, c.share(1, 2), c.share(0, lower), c.told())[2:], [[0], [0, 0, 1]])
            self.assertEqual(c.ask(TWO, c.share(1, 2), c.share(lower, lower), c.told())[2:], [[0], [0, 1, 1]])

    def test_refused(self):
        for x, y in ((0, 0), (1, 0), (c.GREATEST, 0), (0, 101), (1, 101), (50, 200), (0, c.GREATEST), (2, 1), (3, 2),
                     (100, 99), (101, 100), (c.GREATEST, 100), (c.GREATEST, c.GREATEST)):
            self.refused(-22, c.share(x, y))


class Generation(Refusals):
    def test_one_place(self):
        # 1 of 2: the first is worth 3, the second 7, the mean 5; so 1/2 times 3 by 5.
        self.assertEqual(c.ask(ONE, c.share(1, 2), c.generation(), c.told())[2:], [[0], [0, 3, 10]])

    def test_two_places(self):
        # There 1/2 times 5/2 by 2 is 5/8, here 1/2 times 3/2 by 2 is 3/8: 60 and 40 hundredths of these.
        self.assertEqual(c.ask(TWO, c.share(1, 2), c.generation(), c.told())[2:], [[0], [0, 21, 40]])

    def test_three_places(self):
        # Chosen there are 1/2 times 5 by 21/4, 1/2 times 4 by 4, 1/2 times 5 by 19/4: 10/21, 1/2, 10/19.
        # 20, 30 and 50 hundredths of these are 2/21, 3/20, 5/19.
        self.assertEqual(c.ask(THREE, c.share(1, 2), c.generation(), c.told())[2:], [[0], [0, 4057, 7980]])

    def test_a_place_without_seeds_counts_for_nothing(self):
        plain = c.ask(ONE, c.share(1, 3), c.generation(), c.told())[1:]
        for start in (c.start(100, 1, 5, 9, 0, 9, 1, 1), c.start(0, 9, 1, 1, 100, 1, 5, 9),
                      c.start(0, 9, 1, 1, 100, 1, 5, 9, 0, 1, 1, 7)):
            self.assertEqual(c.ask(start, c.share(1, 3), c.generation(), c.told())[1:], plain)

    def test_worths_alike_leave_the_share(self):
        for start in (c.start(100, 7, 7, 7), c.start(60, 1, 1, 1, 40, 9, 9, 9)):
            self.assertEqual(c.ask(start, c.share(5, 9), c.generation(), c.told())[2:], [[0], [0, 5, 9]])

    def test_a_share_of_0_and_of_1_stays(self):
        for start in (ONE, TWO, THREE):
            self.assertEqual(c.ask(start, c.generation(), c.told())[1:], [[0], [0, 0, 1]])
            self.assertEqual(c.ask(start, c.share(1, 1), c.generation(), c.told())[2:], [[0], [0, 1, 1]])

    def test_several_generations_go_by(self):
        # A share p becomes 2p by 1 + 2p - pp here: 1/2, 4/7, 56/89, 9968/14753.
        calls = [c.start(100, 2, 2, 1), c.share(1, 2), c.generation(), c.generation(), c.generation(), c.told()]
        self.assertEqual(c.ask(*calls)[1:], [[0], [0], [0], [0], [0, 9968, 14753]])

    def test_a_lower_number_of_100000_will_do(self):
        parts = c.ask(c.start(8, 5, 8, 8, 92, 3, 2, 9), c.share(1, 4), c.generation(), c.told(), c.after(1),
                      c.generation(), c.told())
        self.assertEqual(parts[3], [0, 10481, 100000])
        self.assertEqual(parts[5], [0])
        self.assertEqual(parts[6], parts[4])

    def test_a_lower_number_of_100001_is_refused(self):
        ready = [c.start(10, 3, 7, 9, 90, 1, 1, 1), c.share(5, 33), c.generation(), c.told()]
        plain = c.ask(*ready, *c.everything(2))
        self.assertEqual(plain[3], [0, 14797, 100001])
        self.assertEqual(c.ask(*ready, c.generation(), *c.everything(2)), plain[:4] + [[-28]] + plain[4:])

    def test_it_goes_on_once_the_share_is_set_anew(self):
        ready = [c.start(10, 3, 7, 9, 90, 1, 1, 1), c.share(5, 33), c.generation()]
        self.assertEqual(c.ask(*ready, c.generation(), c.share(5, 33), c.generation(), c.told())[3:],
                         [[-28], [0], [0], [0, 14797, 100001]])

    def test_it_is_the_lower_number_in_lowest_terms(self):
        # Before its common divisors are gone the lower number of a generation is far above 100,000 here.
        parts = c.ask(c.start(50, 9, 9, 9, 50, 8, 8, 8), c.share(49, 98), *([c.generation()] * 50), c.told())
        self.assertEqual(parts[2:], [[0]] * 50 + [[0, 1, 2]])


if __name__ == "__main__":
    unittest.main()
