"""How calls are handed in and answers given back."""

import random
import unittest

import calls as c
from kindshares.places import answers

EVERY_OTHER_CALL = [
    c.seeds(0, 1, 1), c.worths(0, 1, 1, 1), c.share(1, 2), c.told(), c.mean(0), c.kinds(0), c.generation(),
    c.after(1), c.way(), c.way_at(1, 2), c.enters(), c.enters_other(), c.both(), c.at_place(0), c.more(1, 2), c.best(),
    c.near(2), c.place(0), c.state(),
]
# Once started, each of these is refused otherwise.
EVERY_WRONG_CALL = [
    c.seeds(9, 9, 0), c.worths(9, 0, 0, 0), c.share(1, 0), c.mean(c.GREATEST), c.kinds(3), c.after(3), c.way_at(1, 0),
    c.at_place(3), c.more(1, 11), c.near(1), c.place(c.GREATEST),
]
TWO_PLACES = c.start(60, 3, 2, 1, 40, 1, 2, 3)
# How many numbers each call answers if it isn't refused; near is asked with 2 here.
LENGTHS = (1, 1, 3, 1, 3, 3, 5, 1, 3, 2, 2, 3, 3, 1, 3, 2, 1, 2, 4, 2)


class Untouchable(list):
    """A list that tells when something changes it, be it only for a while."""

    def refuse(self, *args, **kwargs):
        raise RuntimeError("what is handed in was changed")

    append = extend = insert = pop = remove = clear = sort = reverse = refuse
    __setitem__ = __delitem__ = __iadd__ = __imul__ = refuse


class Form(unittest.TestCase):
    def test_each_answer_stands_behind_its_length(self):
        handed = c.joined([
            c.told(), c.start(60, 3, 2, 1, 40, 1, 2, 3), c.share(2, 4), c.told(), c.mean(0), c.kinds(1), c.mean(2),
            c.seeds(0, 1, 10), c.worths(0, 4, 5, 6), c.after(3), c.way(), c.generation(),
        ])
        self.assertEqual(answers(handed), [
            1, -11, 1, 2, 1, 0, 3, 0, 1, 2, 3, 0, 2, 1, 5, 0, 3, 2, 5, 2, 1, -2,
            1, 50, 3, 3, 2, 1, 1, -22, 2, 0, -1, 1, 0,
        ])

    def test_each_later_answer_stands_behind_its_length(self):
        handed = c.joined([
            c.best(), TWO_PLACES, c.share(1, 2), c.way_at(1, 2), c.way_at(1, 0), c.enters(), c.enters_other(), c.both(),
            c.at_place(0), c.at_place(2), c.more(1, 2), c.more(1, 11), c.best(), c.near(4), c.near(1), c.place(1),
            c.place(2), c.state(),
        ])
        self.assertEqual(answers(handed), [
            1, -11, 1, 2, 1, 0, 2, 0, 1, 1, -22, 3, 0, 22, 15, 3, 0, 6, 5, 1, 1,
            3, 0, 5, 8, 1, -2, 2, 0, 1, 1, -22, 1, 0, 4, 3, 1, 1, -1, 1, -22, 4, 40, 1, 2, 3,
            1, -2, 2, 2, 100,
        ])

    def test_a_start_row_tells_its_own_length(self):
        for length in range(61):
            with self.subTest(length=length):
                row = [4] * length
                self.assertEqual(c.ask(c.start(*row), c.told()), [[-22], [-11]])

    def test_two_hundred_calls(self):
        handed = [c.start(100, 1, 2, 1), c.share(1, 3)] + [c.told()] * 198
        self.assertEqual(c.ask(*handed), [[1], [0]] + [[0, 1, 3]] * 198)

    def test_two_hundred_calls_with_great_fractions(self):
        handed = [c.start(33, 9, 7, 8, 33, 5, 8, 9, 34, 7, 9, 8), c.share(47, 97), c.generation()]
        parts = c.ask(*handed, *([c.after(2)] * 197))
        self.assertEqual(len(parts), 200)
        self.assertTrue(all(part == parts[3] for part in parts[3:]))
        self.assertEqual(parts[3][0], 0)

    def test_two_hundred_calls_of_all_twenty_kinds(self):
        kinds = [TWO_PLACES, *EVERY_OTHER_CALL]
        self.assertEqual([call[0] for call in kinds], list(range(20)))
        chance = random.Random(200)
        calls = kinds * 10
        for line in range(20):
            with self.subTest(line=line):
                self.assertEqual(len(calls), 200)
                handed = Untouchable(c.joined(calls))
                first = answers(handed)
                self.assertEqual(list(handed), c.joined(calls))
                self.assertEqual(answers(c.joined(calls)), first)
                self.assertEqual(len(c.apart(first)), 200)
                for call, answered in zip(calls, c.apart(first)):
                    self.assertIn(len(answered), (1, LENGTHS[call[0]]))
                chance.shuffle(calls)

    def test_two_hundred_calls_of_the_longest_work(self):
        ready = [c.start(33, 9, 7, 8, 33, 5, 8, 9, 34, 7, 9, 8), c.share(47, 97), c.generation()]
        for call in (c.more(3, 10), c.near(30), c.way_at(47, 97), c.at_place(2), c.best(), c.way()):
            parts = c.ask(*ready, *([call] * 197))
            self.assertEqual(parts[4:], [parts[3]] * 196)

    def test_the_longest_rows(self):
        handed = [c.start(*([c.GREATEST] * 60))] * 200
        self.assertEqual(c.ask(*handed), [[-22]] * 200)

    def test_what_is_handed_in_is_as_it_was(self):
        handed = c.joined([
            c.start(60, 3, 2, 1, 40, 1, 2, 3), c.start(1), c.share(1, 2), c.seeds(0, 1, 5), c.worths(0, 9, 9, 1),
            c.generation(), *c.everything(2),
        ])
        untouchable = Untouchable(handed)
        first = answers(untouchable)
        self.assertEqual(list(untouchable), handed)
        self.assertEqual(answers(handed), first)

    def test_nothing_is_kept_from_one_time_to_the_next(self):
        handed = c.joined([c.start(50, 1, 2, 3, 50, 3, 2, 1), c.share(1, 5), c.worths(1, 2, 2, 9), c.seeds(0, 1, 3),
                           c.generation(), *c.everything(2)])
        first = answers(handed)
        first_copy = list(first)
        self.assertEqual(c.ask(c.told()), [[-11]])
        first.append(7)
        self.assertEqual(answers(handed), first_copy)

    def test_answers_are_whole_numbers_in_a_list(self):
        given = answers(c.joined([c.start(60, 3, 2, 1, 40, 1, 2, 3), c.share(1, 2), c.generation(),
                                  *c.everything(2), c.mean(2)]))
        self.assertIs(type(given), list)
        self.assertEqual({type(number) for number in given}, {int})


class NothingChanges(unittest.TestCase):
    def test_by_what_is_only_told(self):
        told = [call for call in EVERY_OTHER_CALL + EVERY_WRONG_CALL if call[0] not in (1, 2, 3, 7)]
        told += [c.near(30), c.more(7, 10), c.way_at(99, 100), c.at_place(1), c.place(1), c.after(2)]
        shown = c.everything(2)
        for ready in ([TWO_PLACES], [TWO_PLACES, c.share(3, 7)],
                      [TWO_PLACES, c.share(3, 7), c.generation(), c.generation()]):
            for call in told:
                with self.subTest(ready=ready, call=call):
                    parts = c.ask(*ready, *shown, call, *shown)[len(ready):]
                    self.assertEqual(parts[:len(shown)], parts[len(shown) + 1:])


class BeforeAStart(unittest.TestCase):
    def test_every_other_call_of_a_new_object(self):
        for call in EVERY_OTHER_CALL + EVERY_WRONG_CALL:
            with self.subTest(call=call):
                self.assertEqual(c.ask(call, c.told()), [[-11], [-11]])

    def test_every_other_call_after_a_refused_start(self):
        for call in EVERY_OTHER_CALL + EVERY_WRONG_CALL:
            with self.subTest(call=call):
                self.assertEqual(c.ask(c.start(99, 1, 1, 1), call, c.told()), [[-22], [-11], [-11]])

    def test_it_comes_ahead_of_other_refusals(self):
        parts = c.ask(*EVERY_WRONG_CALL, TWO_PLACES, *EVERY_WRONG_CALL)
        self.assertEqual(parts[:12], [[-11]] * 11 + [[2]])
        self.assertEqual(parts[12:], [[-2], [-2], [-22], [-2], [-2], [-22], [-22], [-2], [-22], [-22], [-2]])

    def test_what_was_asked_before_leaves_no_trace(self):
        start = c.start(30, 1, 2, 3, 70, 3, 2, 1)
        plain = c.ask(start, *c.everything(2))
        before = [c.share(1, 2), c.worths(0, 9, 9, 9), c.seeds(0, 1, 30), c.generation()]
        self.assertEqual(c.ask(*before, start, *c.everything(2)), [[-11]] * 4 + plain)


if __name__ == "__main__":
    unittest.main()
