"""Points 33, 34 and 34a: equations that lean on the others, lots, and papers of lots."""

import itertools
import unittest

from deedworlds.answers import answer_judged, answered
from deedworlds.errors import NoKind, NoLot, NoNumber, NoSize, TooMany
from deedworlds.leaning import all_leaned, enough, leaned, least_lots, lot_judged, lot_paper
from deedworlds.plain import plain
from deedworlds.search import search_judged
from tests.helpers import Checks, breaks, every_tables, fixed_chance, kept, kind, nested, some_term
from tests.papers import some_paper, with_tree

SIGNATURE = (("f", 1), ("e", 0))
TWICE = kind("f/1 e/0", "f(f(x)) = x", "f(e) = e", "y = f(f(y))")
SAME = kind("f/1 e/0", "f(x) = x", "f(f(x)) = x", "f(f(f(x))) = x")
TRIVIAL = kind("f/1 e/0", "x = x", "f(x) = f(x)")
# the second one says the same as the first, but of the second alone the plain tree has many nodes at size 3
SLOW = kind("g/1 h/1 k/1 f/1", "x = y", "f(f(f(f(x)))) = y")
NO_SIZES = [0, 7, -1, True, False, None, "2", (2,), [2], 10 ** 29, nested(300)]
NO_LOTS = [None, True, 0, "0", (), (0,), [3], [-1], [True], [False], ["0"], [None], [0, 0], [1, 0], [0, 1, 3], [[0]],
           {"a": 0}, nested(300), [nested(299)], [10 ** 29]]


def some_kind(chance, many):
    return (SIGNATURE, tuple((some_term(chance, SIGNATURE, 4, "xy"), some_term(chance, SIGNATURE, 4, "xy"))
                             for k in range(many)))


def kept_lists(one, size):
    """Of each model up to a size: the model, and the numbers of the equations that it keeps."""
    for here in range(1, size + 1):
        for tables in every_tables(one[0], here):
            model = (here, tables)
            yield model, [k for k, equation in enumerate(one[1]) if not breaks(one[0], model, equation)]


def lots_of(many):
    for length in range(many + 1):
        for lot in itertools.combinations(range(many), length):
            yield list(lot)


def by_lot(one, lot):
    return (one[0], tuple(one[1][number] for number in lot))


class LeanedTest(Checks, unittest.TestCase):
    def test_what_is_answered_without_it(self):
        for one in (TWICE, SAME, TRIVIAL):
            for number, equation in enumerate(one[1]):
                others = by_lot(one, [k for k in range(len(one[1])) if k != number])
                for size, parts in [(1, 9), (3, 9), (2, 2)]:
                    told = leaned(kind=one, number=number, size=size, parts=parts)
                    self.assertEqual(told, answered(others, equation, size, parts=parts))
                    self.assertIsNone(answer_judged(others, equation, told))

    def test_each_state(self):
        self.assertEqual(leaned(TWICE, 0, 3)[0], "road")
        self.assertEqual(leaned(TWICE, 1, 3)[:2], ("model", (2, ((1, 0), (0,)))))
        self.assertEqual(leaned(TWICE, 1, 1)[0], "open")
        self.assertEqual([told[0] for told in all_leaned(kind=SAME, size=3)], ["road", "road", "road"])
        self.assertEqual([told[0] for told in all_leaned(SAME, 3, parts=1)], ["open", "open", "open"])
        self.assertEqual([told[0] for told in all_leaned(TWICE, 1, parts=2)], ["open", "open", "open"])

    def test_all_of_them(self):
        for one in (TWICE, SAME, TRIVIAL, (SIGNATURE, ())):
            for size, parts in [(1, 9), (3, 9), (2, 2)]:
                self.assertEqual(all_leaned(one, size, parts=parts),
                                 [leaned(one, number, size, parts=parts) for number in range(len(one[1]))])
                self.assertEqual(all_leaned(one, size), all_leaned(one, size, parts=9))

    def test_refusals_in_order(self):
        self.refuses(NoKind, leaned, None, -1, 0, parts=0)
        self.refuses(NoKind, all_leaned, (SIGNATURE, None), 0, parts=0)
        for number in [-1, 3, 10 ** 29, True, False]:
            self.refuses(NoNumber, leaned, TWICE, number, 0, parts=0)
        self.refuses(NoNumber, leaned, (SIGNATURE, ()), 0, 0, parts=0)
        for size in NO_SIZES:
            self.refuses(NoSize, leaned, TWICE, 0, size, parts=0)
            self.refuses(NoSize, all_leaned, TWICE, size, parts=0)
            self.refuses(NoSize, all_leaned, (SIGNATURE, ()), size, parts=0)
        for parts in [0, 61, True, None, "9", nested(300)]:
            self.refuses(NoNumber, leaned, TWICE, 0, 6, parts=parts)
            self.refuses(NoNumber, all_leaned, TWICE, 6, parts=parts)
            self.refuses(NoNumber, all_leaned, (SIGNATURE, ()), 6, parts=parts)

    def test_too_many(self):
        free = kind("f/1", "f(x) = f(f(f(x)))", "f(f(f(y))) = f(y)")
        self.assertEqual(leaned(free, 0, 6)[0], "road")
        one = kind("f/1 g/1", "f(x) = g(x)", "g(y) = f(y)")
        self.refuses(TooMany, leaned, one, 0, 6, parts=1)
        self.refuses(TooMany, all_leaned, one, 6, parts=1)
        self.assertEqual([told[0] for told in all_leaned(one, 6)], ["road", "road"])

    def test_told_lists_are_own(self):
        self.own(leaned, TWICE, 0, 2)
        self.own(leaned, SAME, 0, 2, parts=1)
        self.own(all_leaned, SAME, 2, parts=2)


class LotsTest(Checks, unittest.TestCase):
    def test_against_all_tables(self):
        chance = fixed_chance(35)
        kinds = [TWICE, SAME, TRIVIAL, (SIGNATURE, ())] + [some_kind(chance, chance.randrange(5)) for k in range(25)]
        for one in kinds:
            many = len(one[1])
            for size in (1, 2, 3):
                lists = list(kept_lists(one, size))
                good = []
                for lot in lots_of(many):
                    breakers = [model for model, kept_ones in lists
                                if set(lot) <= set(kept_ones) and len(kept_ones) < many]
                    told = enough(kind=one, lot=lot, size=size)
                    if not breakers:
                        self.assertIsNone(told)
                        good.append(lot)
                    else:
                        model, number = told
                        self.assertEqual(model[0], breakers[0][0])
                        self.assertIn(model, breakers)
                        self.assertEqual(number, [k for k, equation in enumerate(one[1])
                                                  if breaks(SIGNATURE, model, equation)][0])
                least = [lot for lot in good if not any(set(other) < set(lot) for other in good)]
                self.assertEqual(least_lots(kind=one, size=size), least)
                for lot in lots_of(many):
                    self.check_paper(one, lot, size, lot in least)

    def check_paper(self, one, lot, size, is_least):
        told = lot_paper(kind=one, lot=lot, size=size)
        self.assertEqual(told is not None, is_least, (one, lot, size))
        if is_least:
            self.assertIsNone(lot_judged(kind=one, lot=lot, size=size, thing=told))
            for here, paper in enumerate(told[0]):
                self.assertIsNone(search_judged(by_lot(one, lot), here + 1, paper))
            for i, model in enumerate(told[1]):
                self.assertLessEqual(model[0], size)
                self.assertTrue(kept(by_lot(one, lot[:i] + lot[i + 1:]), model))
                self.assertFalse(kept(one, model))

    def test_equations_that_say_the_same_twice(self):
        self.assertEqual(least_lots(TWICE, 3), [[0, 1], [1, 2]])
        self.assertEqual(least_lots(TWICE, 1), [[]])
        self.assertEqual(least_lots(TRIVIAL, 3), [[]])
        self.assertEqual(least_lots(SAME, 3), [[0], [1, 2]])
        self.assertEqual(least_lots((SIGNATURE, ()), 3), [[]])

    def test_the_empty_lot(self):
        self.assertIsNone(enough(TWICE, [], 1))
        self.assertEqual(enough(TWICE, [], 2)[0][0], 2)
        self.assertEqual(lot_paper(TRIVIAL, [], 2), ([plain((SIGNATURE, ()), 1), plain((SIGNATURE, ()), 2)], []))
        self.assertIsNone(lot_paper(TWICE, [], 2))

    def test_too_many_where_it_is_told(self):
        trivial = kind("f/1", "x = x")
        for lot in ([], [0]):
            self.assertIsNone(enough(trivial, lot, 5))
            self.refuses(TooMany, enough, trivial, lot, 6)
            self.refuses(TooMany, lot_paper, trivial, lot, 6)
        fixed = kind("f/1", "f(x) = x")
        self.assertEqual(enough(fixed, [], 6)[0][0], 2)
        self.assertIsNone(enough(fixed, [0], 6))
        self.assertEqual(least_lots(fixed, 5), [[0]])
        self.refuses(TooMany, least_lots, fixed, 6)
        self.assertIsNone(lot_paper(fixed, [], 6))
        self.assertIsNone(lot_judged(fixed, [0], 6, lot_paper(fixed, [0], 6)))

    def test_too_many_of_the_lot_without_a_number(self):
        self.assertIsNone(enough(SLOW, [0, 1], 3))
        self.assertIsNone(enough(SLOW, [1], 2))
        self.refuses(TooMany, enough, SLOW, [1], 3)
        self.assertIsNone(lot_paper(SLOW, [0, 1], 2))
        self.refuses(TooMany, lot_paper, SLOW, [0, 1], 3)
        self.refuses(TooMany, lot_paper, SLOW, [1], 3)
        self.assertIsNone(lot_judged(SLOW, [0], 3, lot_paper(SLOW, [0], 3)))
        # the one that is enough ends it, ahead of the one that would be refused
        turned = (SLOW[0], SLOW[1][::-1])
        self.assertIsNone(lot_paper(turned, [0, 1], 3))

    def test_refusals_in_order(self):
        for function, more in [(enough, ()), (lot_paper, ()), (lot_judged, (None,))]:
            self.refuses(NoKind, function, None, None, 0, *more)
            for lot in NO_LOTS:
                self.refuses(NoLot, function, TWICE, lot, 0, *more)
            self.refuses(NoLot, function, (SIGNATURE, ()), [0], 0, *more)
            for size in NO_SIZES:
                self.refuses(NoSize, function, TWICE, [0, 1], size, *more)
        self.refuses(NoKind, least_lots, (SIGNATURE, 0), 0)
        for size in NO_SIZES:
            self.refuses(NoSize, least_lots, TWICE, size)

    def test_told_lists_are_own(self):
        self.own(enough, TWICE, [0], 2)
        self.own(least_lots, TWICE, 3)
        self.own(lot_paper, TWICE, [0, 1], 3)
        self.own(lot_paper, TRIVIAL, [], 2)
        self.own(lot_judged, TWICE, [0, 1], 3, lot_paper(TWICE, [0, 1], 3))


class LotJudgedTest(Checks, unittest.TestCase):
    lot = [0, 1]
    searches, breakers = lot_paper(TWICE, [0, 1], 2)

    def judged(self, thing, wanted, lot=(0, 1), size=2, one=TWICE):
        self.assertEqual(lot_judged(one, list(lot), size, thing), wanted, thing)

    def test_form(self):
        for thing in [None, True, 0, "paper", (), [], (self.searches,), [self.searches, self.breakers],
                      (self.searches, self.breakers, []), (tuple(self.searches), self.breakers),
                      (self.searches, tuple(self.breakers)), (self.searches[:1], self.breakers),
                      (self.searches + [None], self.breakers), (self.searches, self.breakers[:1]),
                      (self.searches, self.breakers + [None]), ([], []), (None, None), nested(300)]:
            self.judged(thing, ("paper",))
        self.judged((self.searches, self.breakers), None)
        self.judged((self.searches, self.breakers), ("paper",), lot=(1,))
        self.judged((self.searches, self.breakers), ("paper",), size=3)

    def test_searches(self):
        one, two = self.searches
        for thing in [None, (), "x", [], nested(297)]:
            self.judged(([thing, two], self.breakers), ("search", 1, ("paper",)))
            self.judged(([one, thing], [None, None]), ("search", 2, ("paper",)))
            self.judged(([thing, thing], self.breakers), ("search", 1, ("paper",)))
        both = by_lot(TWICE, self.lot)
        for first, second in [(two, one), (one, one), (two, two)]:
            wrong = search_judged(both, 1, first)
            wanted = ("search", 2, search_judged(both, 2, second)) if wrong is None else ("search", 1, wrong)
            self.judged(([first, second], self.breakers), wanted)
        broken = with_tree(two, (0, 0), ("broken", 0, (5,)))
        self.judged(([one, broken], self.breakers), ("search", 2, ("tree", (0, 0))))

    def test_searches_go_by_the_lot_in_its_order(self):
        turned = (SIGNATURE, TWICE[1][1::-1])
        papers = [plain(turned, size) for size in (1, 2)]
        self.assertNotEqual(papers[1], self.searches[1])
        self.judged((papers, self.breakers), ("search", 2, search_judged(by_lot(TWICE, [0, 1]), 2, papers[1])))
        chance = fixed_chance(36)
        for step in range(10):
            papers = [some_paper(chance, by_lot(TWICE, [0, 1]), size) for size in (1, 2)]
            self.judged((papers, self.breakers), None)

    def test_leaves(self):
        first = by_lot(TWICE, [0])
        papers = [plain(first, size) for size in (1, 2, 3)]
        self.judged((papers[:2], [None]), ("leaf", 2), lot=(0,))
        self.judged((papers, [None]), ("leaf", 2), lot=(0,), size=3)
        self.judged((papers[:1], [None]), ("breaker", 0), lot=(0,), size=1)
        self.judged((papers[:2] + [None], [None]), ("search", 3, ("paper",)), lot=(0,), size=3)

    def test_breakers(self):
        one, two = self.breakers
        for thing in [None, (), "x", [2, two[1]], (2, (two[1][0],)), (7, two[1]), (2, ((True, 0), (0,))),
                      nested(297)]:
            self.judged((self.searches, [thing, two]), ("breaker", 0))
            self.judged((self.searches, [one, thing]), ("breaker", 1))
            self.judged((self.searches, [thing, thing]), ("breaker", 0))
        self.judged((self.searches, [two, one]), ("breaker", 0))
        self.judged((self.searches, [one, one]), ("breaker", 1))
        # one that keeps all, one that breaks another one of the lot's, one that is too great
        self.judged((self.searches, [(2, ((0, 1), (0,))), two]), ("breaker", 0))
        self.judged((self.searches, [(2, ((1, 1), (0,))), two]), ("breaker", 0))
        self.judged((self.searches, [(3, ((0, 0, 0), (0,))), two]), ("breaker", 0))
        self.judged((self.searches, [(2, ((0, 0), (0,))), two]), None)
        self.judged((self.searches + [plain(by_lot(TWICE, [0, 1]), 3)], [(3, ((0, 0, 0), (0,))), two]), None, size=3)

    def test_a_breaker_breaks_some_equation_of_the_kind(self):
        """Not just the one that was left out: the breaker may break one that isn't in the lot."""
        three = kind("f/1 e/0", "f(x) = x", "f(f(x)) = x")
        paper = lot_paper(three, [0], 2)
        self.assertIsNone(lot_judged(three, [0], 2, paper))
        for model, wanted in [((2, ((1, 0), (0,))), None), ((2, ((0, 0), (0,))), None),
                              ((2, ((0, 1), (0,))), ("breaker", 0))]:
            self.judged((paper[0], [model]), wanted, lot=(0,), one=three)


if __name__ == "__main__":
    unittest.main()
