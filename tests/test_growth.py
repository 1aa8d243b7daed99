"""Point 3: enters, entersOther and both, which speak of the seeds and the worths alone."""

import unittest

import calls as c

ONE = c.start(100, 1, 5, 9)
TWO = c.start(60, 3, 2, 1, 40, 1, 2, 3)
THREE = c.start(20, 1, 9, 2, 30, 4, 4, 4, 50, 9, 1, 8)
ALL = (c.enters(), c.enters_other(), c.both())


class Enters(unittest.TestCase):
    def test_one_place(self):
        self.assertEqual(c.last(ONE, c.enters()), [0, 5, 9])
        self.assertEqual(c.last(c.start(100, 5, 8, 6), c.enters()), [0, 4, 3])

    def test_several_places(self):
        # 60 hundredths of 2, 40 of 2/3; then 20 of 9/2, 30 of 1, 50 of 1/8.
        self.assertEqual(c.last(TWO, c.enters()), [0, 22, 15])
        self.assertEqual(c.last(THREE, c.enters()), [0, 101, 80])

    def test_the_greatest_and_the_least(self):
        self.assertEqual(c.last(c.start(100, 1, 9, 1), c.enters()), [0, 9, 1])
        self.assertEqual(c.last(c.start(100, 1, 1, 9), c.enters()), [0, 1, 9])

    def test_just_1(self):
        self.assertEqual(c.last(c.start(100, 9, 7, 7), c.enters()), [0, 1, 1])
        self.assertEqual(c.last(c.start(50, 9, 2, 4, 50, 9, 3, 2), c.enters()), [0, 1, 1])

    def test_a_place_without_seeds_counts_for_nothing(self):
        for start in (c.start(100, 1, 5, 9, 0, 1, 9, 1), c.start(0, 1, 9, 1, 100, 1, 5, 9)):
            self.assertEqual(c.last(start, c.enters()), [0, 5, 9])

    def test_what_the_first_is_worth_with_itself_has_no_say(self):
        for worth in range(1, 10):
            self.assertEqual(c.last(TWO, c.worths(0, worth, 2, 1), c.worths(1, worth, 2, 3), c.enters()), [0, 22, 15])


class EntersOther(unittest.TestCase):
    def test_one_place(self):
        self.assertEqual(c.last(ONE, c.enters_other()), [0, 5, 1])
        self.assertEqual(c.last(c.start(100, 6, 8, 5), c.enters_other()), [0, 4, 3])

    def test_several_places(self):
        # 60 hundredths of 2/3, 40 of 2; then 20 of 9, 30 of 1, 50 of 1/9.
        self.assertEqual(c.last(TWO, c.enters_other()), [0, 6, 5])
        self.assertEqual(c.last(THREE, c.enters_other()), [0, 97, 45])

    def test_the_greatest_and_the_least(self):
        self.assertEqual(c.last(c.start(100, 1, 9, 1), c.enters_other()), [0, 9, 1])
        self.assertEqual(c.last(c.start(100, 9, 1, 1), c.enters_other()), [0, 1, 9])

    def test_just_1(self):
        self.assertEqual(c.last(c.start(100, 7, 7, 9), c.enters_other()), [0, 1, 1])
        self.assertEqual(c.last(c.start(50, 4, 2, 9, 50, 2, 3, 9), c.enters_other()), [0, 1, 1])

    def test_a_place_without_seeds_counts_for_nothing(self):
        for start in (c.start(100, 9, 5, 1, 0, 1, 9, 1), c.start(0, 1, 9, 1, 100, 9, 5, 1)):
            self.assertEqual(c.last(start, c.enters_other()), [0, 5, 9])

    def test_what_the_second_is_worth_with_itself_has_no_say(self):
        for worth in range(1, 10):
            self.assertEqual(c.last(TWO, c.worths(0, 3, 2, worth), c.worths(1, 1, 2, worth), c.enters_other()),
                             [0, 6, 5])


class Both(unittest.TestCase):
    def test_one_place(self):
        for start, kept in ((c.start(100, 1, 2, 1), 1), (c.start(100, 8, 9, 8), 1), (c.start(100, 3, 2, 1), 0),
                            (c.start(100, 1, 2, 3), 0), (c.start(100, 2, 1, 2), 0)):
            self.assertEqual(c.last(start, c.both()), [kept])

    def test_kept_only_over_several_places(self):
        self.assertEqual(c.last(c.start(100, 3, 2, 1), c.both()), [0])
        self.assertEqual(c.last(c.start(100, 1, 2, 3), c.both()), [0])
        self.assertEqual(c.last(TWO, c.both()), [1])
        self.assertEqual(c.last(THREE, c.both()), [1])

    def test_growing_by_just_1_is_not_enough(self):
        # The first kind grows by 1 and then by 101/100, the second by far more.
        self.assertEqual(c.ask(c.start(50, 1, 2, 4, 50, 1, 3, 2), *ALL, c.seeds(0, 1, 1), *ALL)[1:],
                         [[0, 1, 1], [0, 5, 2], [0], [51], [0, 101, 100], [0, 251, 100], [1]])
        self.assertEqual(c.ask(c.start(50, 4, 2, 1, 50, 2, 3, 1), *ALL, c.seeds(0, 1, 1), *ALL)[1:],
                         [[0, 5, 2], [0, 1, 1], [0], [51], [0, 251, 100], [0, 101, 100], [1]])
        self.assertEqual(c.ask(c.start(50, 4, 2, 4, 50, 2, 3, 2), *ALL)[1:], [[0, 1, 1], [0, 1, 1], [0]])

    def test_worths_alike(self):
        self.assertEqual(c.ask(c.start(60, 1, 1, 1, 40, 9, 9, 9), *ALL)[1:], [[0, 1, 1], [0, 1, 1], [0]])

    def test_a_place_without_seeds_counts_for_nothing(self):
        self.assertEqual(c.last(c.start(100, 3, 2, 1, 0, 1, 9, 1), c.both()), [0])
        self.assertEqual(c.last(c.start(0, 3, 1, 9, 100, 1, 2, 1), c.both()), [1])


class WhateverTheShare(unittest.TestCase):
    def test_the_share_has_no_say(self):
        for start in (ONE, TWO, THREE):
            plain = c.ask(start, *ALL)[1:]
            for standing in ([c.share(1, 1)], [c.share(1, 2)], [c.share(99, 100)],
                             [c.share(47, 97)] + [c.generation()] * 3):
                self.assertEqual(c.ask(start, *standing, *ALL)[-3:], plain)

    def test_seeds_and_worths_as_they_stand_now(self):
        plain = c.ask(c.start(45, 3, 2, 1, 55, 9, 1, 5), *ALL)[1:]
        self.assertEqual(c.ask(TWO, c.seeds(0, 1, 15), c.worths(1, 9, 1, 5), *ALL)[3:], plain)


if __name__ == "__main__":
    unittest.main()
