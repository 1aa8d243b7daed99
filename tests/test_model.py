"""The program beside the document's own words, worked out in Python's fractions."""

import math
import random
import unittest
from fractions import Fraction

import calls as c
from kindshares.places import answers


def pair(fraction):
    return [fraction.numerator, fraction.denominator]


class Model:
    """An object as the document tells it, its rows in the document's order."""

    def __init__(self):
        self.places = None
        self.share = Fraction(0)

    def kinds(self, i):
        a, b, second = self.places[i][1:]
        p = self.share
        return a * p + b * (1 - p), b * p + second * (1 - p)

    def mean(self, i):
        first, second = self.kinds(i)
        return first * self.share + second * (1 - self.share)

    def following(self):
        chosen = [self.share * self.kinds(i)[0] / self.mean(i) for i in range(len(self.places))]
        return sum(Fraction(place[0], 100) * part for place, part in zip(self.places, chosen))

    def at(self, share, told):
        """What told answers, were the share that."""
        kept = self.share
        self.share = share
        answered = told()
        self.share = kept
        return answered

    def way(self):
        following = self.following()
        return (following > self.share) - (following < self.share)

    def product(self):
        powers = [self.mean(i) ** place[0] for i, place in enumerate(self.places)]
        return math.prod(powers)

    def product_way(self):
        later = self.at(self.following(), self.product)
        return (later > self.product()) - (later < self.product())

    def growth(self, with_itself):
        return sum(Fraction(place[0], 100) * Fraction(place[2], place[with_itself]) for place in self.places)

    def later(self, generations):
        kept = self.share
        for _ in range(generations):
            self.share = self.following()
        reached = self.share
        self.share = kept
        return reached

    def answer(self, call):
        if call[0] == 0:
            return self.start(call[2:])
        if self.places is None:
            return [-11]
        return getattr(self, "call_%d" % call[0])(*call[1:])

    def start(self, row):
        if len(row) not in (4, 8, 12):
            return [-22]
        places = [row[at:at + 4] for at in range(0, len(row), 4)]
        if any(worth not in range(1, 10) for place in places for worth in place[1:]):
            return [-22]
        if sum(place[0] for place in places) != 100:
            return [-22]
        self.places = places
        self.share = Fraction(0)
        return [len(places)]

    def call_1(self, i, j, n):
        if i not in range(len(self.places)) or j not in range(len(self.places)):
            return [-2]
        if n == 0 or i == j:
            return [-22]
        if n > self.places[i][0]:
            return [-12]
        self.places[i][0] -= n
        self.places[j][0] += n
        return [self.places[j][0]]

    def call_2(self, i, *three):
        if i not in range(len(self.places)):
            return [-2]
        if any(worth not in range(1, 10) for worth in three):
            return [-22]
        before = self.places[i][1:]
        self.places[i][1:] = three
        return before

    def call_3(self, x, y):
        if y == 0 or y > 100 or x > y:
            return [-22]
        self.share = Fraction(x, y)
        return [0]

    def call_4(self):
        return [0] + pair(self.share)

    def call_5(self, i):
        return [0] + pair(self.mean(i)) if i in range(len(self.places)) else [-2]

    def call_6(self, i):
        if i not in range(len(self.places)):
            return [-2]
        first, second = self.kinds(i)
        return [0] + pair(first) + pair(second)

    def call_7(self):
        if self.share.denominator > 100000:
            return [-28]
        self.share = self.following()
        return [0]

    def call_8(self, n):
        return [-22] if n > 2 else [0] + pair(self.later(n))

    def call_9(self):
        return [0, self.way()]

    def call_10(self, x, y):
        return [-22] if y == 0 or y > 100 or x > y else [0, self.at(Fraction(x, y), self.way)]

    def call_11(self):
        return [0] + pair(self.growth(3))

    def call_12(self):
        return [0] + pair(self.growth(1))

    def call_13(self):
        return [1] if self.growth(3) > 1 and self.growth(1) > 1 else [0]

    def call_14(self, i):
        if i not in range(len(self.places)):
            return [-2]
        return [0] + pair(self.share * self.kinds(i)[0] / self.mean(i))

    def call_15(self, x, y):
        return [-22] if y == 0 or y > 10 or x > y else [0, self.at(Fraction(x, y), self.product_way)]

    def call_16(self):
        best = 0
        for i in range(1, len(self.places)):
            if self.mean(i) > self.mean(best):
                best = i
        return [best]

    def call_17(self, n):
        if n < 2 or n > 30:
            return [-22]
        return [n - 1] + [self.at(Fraction(upper, n), self.way) for upper in range(1, n)]

    def call_18(self, i):
        return list(self.places[i]) if i in range(len(self.places)) else [-2]

    def call_19(self):
        return [len(self.places), sum(place[0] for place in self.places)]


def some_start(chance):
    places = chance.randint(1, 3)
    cuts = sorted(chance.choice((0, 100, chance.randint(0, 100))) for _ in range(places - 1))
    counts = [high - low for low, high in zip([0] + cuts, cuts + [100])]
    row = []
    for count in counts:
        row += [count, *(chance.randint(1, 9) for _ in range(3))]
    if chance.random() < 0.2:
        row[chance.randrange(len(row))] = chance.choice((0, 1, 9, 10, 99, 101, c.GREATEST))
    if chance.random() < 0.1:
        row = row[:chance.randint(0, len(row))]
    return c.start(*row)


def some_place(chance):
    return chance.choice((0, 0, 0, 1, 1, 1, 2, 2, 3, c.GREATEST))


def some_worth(chance):
    return chance.choice((0, 10, c.GREATEST)) if chance.random() < 0.05 else chance.randint(1, 9)


def some_share(chance, lowers):
    lower = chance.choice(lowers)
    return [chance.choice((0, lower, min(lower + 1, c.GREATEST), chance.randint(0, lower))), lower]


def some_call(chance):
    kind = chance.choice((0, 1, 1, 2, 2, 3, 3, 3, 7, 7, *range(4, 20)))
    if kind == 0:
        return some_start(chance)
    if kind == 1:
        return c.seeds(some_place(chance), some_place(chance), chance.choice((0, 1, 2, 5, 30, 100, 101, c.GREATEST)))
    if kind == 2:
        return c.worths(some_place(chance), some_worth(chance), some_worth(chance), some_worth(chance))
    if kind in (3, 10):
        return [kind, *some_share(chance, (0, 1, 2, 3, 4, 5, 10, 99, 100, 101, chance.randint(1, 100), c.GREATEST))]
    if kind in (5, 6, 14, 18):
        return [kind, some_place(chance)]
    if kind == 8:
        return c.after(chance.choice((0, 1, 2, 2, 3, c.GREATEST)))
    if kind == 15:
        return [kind, *some_share(chance, (0, 1, 2, 3, 7, 9, 10, 10, 11, 100, c.GREATEST))]
    if kind == 17:
        return c.near(chance.choice((0, 1, 2, 3, 10, 30, 31, c.GREATEST)))
    return [kind]


class BesideTheModel(unittest.TestCase):
    def test_calls_in_any_order(self):
        chance = random.Random(20)
        seen = {}
        for line in range(400):
            handed = [some_call(chance) for _ in range(chance.randint(1, 60))]
            model = Model()
            asked = [model.answer(list(call)) for call in handed]
            self.assertEqual(c.ask(*handed), asked, handed)
            for call, answered in zip(handed, asked):
                seen[(call[0], min(answered[0], 0))] = True
        # So the chances above have brought each refusal of each call, and each call's answer.
        for met in ((0, -22), (1, -2), (1, -22), (1, -12), (2, -2), (2, -22), (3, -22), (5, -2), (6, -2), (7, -28),
                    (8, -22), (10, -22), (14, -2), (15, -22), (17, -22), (18, -2),
                    *((call, 0) for call in range(20)), *((call, -11) for call in range(1, 20))):
            self.assertIn(met, seen)

    def test_two_hundred_calls_of_all_twenty_kinds(self):
        chance = random.Random(200)
        for line in range(20):
            calls = [c.start(20, 1, 9, 2, 30, 4, 4, 4, 50, 9, 1, 8)] + [some_call(chance) for _ in range(199)]
            self.assertEqual({call[0] for call in calls}, set(range(20)))
            model = Model()
            asked = [model.answer(list(call)) for call in calls]
            handed = c.joined(calls)
            whole = [number for answered in asked for number in (len(answered), *answered)]
            self.assertEqual(answers(handed), whole)
            self.assertEqual(handed, c.joined(calls))
            self.assertEqual(answers(handed), whole)

    def test_each_share_of_some_places(self):
        starts = [c.start(100, 9, 1, 8), c.start(50, 1, 9, 1, 50, 9, 1, 9),
                  c.start(1, 9, 8, 7, 0, 1, 1, 1, 99, 2, 3, 5)]
        for start in starts:
            for lower in (1, 2, 7, 64, 97, 100):
                for upper in range(lower + 1):
                    shown = c.everything(start[1] // 4)
                    handed = [start, c.share(upper, lower), *shown, c.generation(), *shown]
                    model = Model()
                    self.assertEqual(c.ask(*handed), [model.answer(list(call)) for call in handed])


if __name__ == "__main__":
    unittest.main()
