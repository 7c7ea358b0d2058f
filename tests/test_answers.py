"""Points 31 and 32: claims answered, and answers judged."""

import unittest

from deedworlds.answers import answer_judged, answered, state_of
from deedworlds.errors import NoAnswer, NoEquation, NoKind, NoNumber, NoSize, TooMany
from deedworlds.following import road_for, shut_list
from deedworlds.models import first_broken
from deedworlds.plain import plain
from deedworlds.search import search_judged
from tests.helpers import (
    Checks, breaks, every_tables, fixed_chance, kept, kind, nested, some_term, spoil, term, tower, var,
)
from tests.papers import some_paper, with_tree
from tests.walks import come_to

SIGNATURE = (("f", 1), ("e", 0))
FF = kind("f/1 e/0", "f(f(x)) = x")
FIX = kind("f/1 e/0", "f(e) = e")
SEMI = kind("m/2 f/1 e/0", "m(m(x, y), z) = m(x, m(y, z))")
TWO = kind("f/1 g/1", "f(x) = g(x)")
NO_SIZES = [0, 7, -1, True, False, None, "2", (2,), [2], 10 ** 29, nested(300)]
NO_PARTS = [0, 61, -1, True, None, "9", [9], nested(300)]
X, Y = var("x"), var("y")


def asked(text, signature=SIGNATURE):
    return tuple(term(side, signature) for side in text.split(" = "))


def all_models_up_to(one, size):
    for here in range(1, size + 1):
        for tables in every_tables(one[0], here):
            if kept(one, (here, tables)):
                yield (here, tables)


class AnsweredTest(Checks, unittest.TestCase):
    def test_a_road(self):
        claim = asked("f(f(f(x))) = f(x)")
        told = answered(kind=FF, equation=claim, size=3)
        self.assertEqual(told, ("road", road_for(FF, claim)))
        self.assertEqual(answered(FF, (X, X), 6, parts=1), ("road", [(X, None)]))

    def test_a_model_of_the_least_size_and_the_first_worths(self):
        told = answered(FF, asked("f(x) = x"), 4)
        self.assertEqual((told[0], told[1][0]), ("model", 2))
        self.assertEqual(first_broken((SIGNATURE, (asked("f(x) = x"),)), told[1]), (0, told[2]))
        told = answered(kind("m/2 f/1 e/0"), asked("m(x, y) = m(y, x)", SEMI[0]), 2)
        self.assertEqual((told[0], told[1][0], told[2]), ("model", 2, (0, 1)))
        self.assertEqual(answered(FF, (X, Y), 6)[1][0], 2)
        three = kind("f/1", "f(f(f(x))) = x")
        told = answered(three, asked("f(x) = x", three[0]), 5)
        self.assertEqual((told[1][0], told[2]), (3, (0,)))

    def test_open_with_all_searches(self):
        claim = asked("f(f(x)) = x")
        three = kind("f/1 e/0", "f(f(f(x))) = x")
        told = answered(three, claim, 2)
        self.assertEqual(told, ("open", [plain(three, 1), plain(three, 2)], 9, shut_list(three, claim)))
        self.assertEqual(answered(three, claim, 1, parts=3)[2:], (3, shut_list(three, claim, parts=3)))
        for size in range(1, 5):
            told = answered(TWO, asked("f(x) = g(x)", TWO[0]), size, parts=1)
            self.assertEqual((told[0], len(told[1]), told[2], told[3]), ("open", size, 1, [asked("f(x) = x")[0]]))
            for k, paper in enumerate(told[1]):
                self.assertIsNone(search_judged(TWO, k + 1, paper))

    def test_no_shut_list_where_too_many_are_come_to(self):
        one = kind("m/2 f/1 e/0", "m(x, y) = m(y, x)", "x = m(x, m(f(y), f(y)))")
        claim = asked("m(f(x), m(f(y), z)) = m(m(f(x), f(y)), z)", one[0])
        self.assertEqual(come_to(one, claim, 19)[0], "many")
        told = answered(one, claim, 1, parts=19)
        self.assertEqual((told[0], told[2:]), ("open", (19, None)))
        self.assertIsNone(answer_judged(one, claim, told))

    def test_against_all_tables(self):
        chance = fixed_chance(33)
        seen = []
        for step in range(150):
            one = (SIGNATURE, tuple((some_term(chance, SIGNATURE, 4, "xy"), some_term(chance, SIGNATURE, 4, "xy"))
                                    for k in range(chance.randrange(3))))
            claim = (some_term(chance, SIGNATURE, 4, "xy"), some_term(chance, SIGNATURE, 4, "xy"))
            size = chance.randrange(1, 4)
            parts = chance.choice([1, 4, 6])
            told = answered(one, claim, size, parts=parts)
            self.assertIsNone(answer_judged(one, claim, told))
            breaking = [model for model in all_models_up_to(one, size) if breaks(SIGNATURE, model, claim)]
            came = come_to(one, claim, parts)
            if came[0] == "road":
                self.assertEqual((told[0], len(told[1]), breaking), ("road", came[1] + 1, []))
            elif breaking:
                self.assertEqual((told[0], told[1][0]), ("model", breaking[0][0]))
                self.assertIn(told[1], breaking)
                self.assertEqual(told[2], breaks(SIGNATURE, told[1], claim)[0])
            else:
                self.assertEqual((told[0], len(told[1]), told[2]), ("open", size, parts))
                self.assertEqual(told[3] is None, came[0] == "many")
            self.assertEqual(state_of(one, claim, told),
                             {"road": "holds", "model": "refuted", "open": "open"}[told[0]])
            seen.append(told[0])
        for word in ("road", "model", "open"):
            self.assertGreater(seen.count(word), 5)

    def test_too_many_just_where_a_size_is_gone_through(self):
        free = kind("f/1")
        claim = asked("f(f(x)) = x", free[0])
        self.refuses(TooMany, plain, free, 6)
        self.assertEqual(answered(free, claim, 6)[0], "model")
        self.assertEqual(answered(free, (X, X), 6)[0], "road")
        same = asked("f(x) = g(x)", TWO[0])
        least = [size for size in range(1, 7) if self.refused(plain, TWO, size)][0]
        self.assertEqual(answered(TWO, same, least - 1, parts=1)[0], "open")
        self.refuses(TooMany, answered, TWO, same, least, parts=1)
        self.refuses(TooMany, answered, TWO, same, 6, parts=1)
        self.assertEqual(answered(TWO, same, 6)[0], "road")

    def refused(self, function, *things):
        try:
            function(*things)
        except TooMany:
            return True
        return False

    def test_refusals_in_order(self):
        self.refuses(NoKind, answered, None, None, 0, parts=0)
        for claim in [None, (X,), [X, X], (X, ("var", "a")), (tower("f", 13), X)]:
            self.refuses(NoEquation, answered, FF, claim, 0, parts=0)
        for size in NO_SIZES:
            self.refuses(NoSize, answered, FF, (X, Y), size, parts=0)
        for parts in NO_PARTS:
            self.refuses(NoNumber, answered, TWO, (X, Y), 6, parts=parts)
            self.refuses(NoNumber, answered, TWO, (X, X), 6, parts=parts)

    def test_told_lists_are_own(self):
        self.own(answered, FF, asked("f(f(x)) = x"), 2)
        self.own(answered, FF, asked("f(x) = x"), 2)
        self.own(answered, kind("f/1 e/0", "f(f(f(x))) = x"), asked("f(f(x)) = x"), 2, parts=5)
        self.own(answer_judged, FF, asked("f(f(x)) = x"), answered(FF, asked("f(f(x)) = x"), 2))


class JudgedTest(Checks, unittest.TestCase):
    claim = asked("f(x) = x")
    three = kind("f/1 e/0", "f(f(f(x))) = x")
    second = asked("f(f(x)) = x")

    def test_refusals(self):
        for function in (answer_judged, state_of):
            self.refuses(NoKind, function, None, None, None)
            self.refuses(NoEquation, function, FF, (X, None), None)

    def judged(self, one, claim, thing, wanted):
        """Whether answer_judged tells this, and state_of refuses with it."""
        self.assertEqual(answer_judged(kind=one, equation=claim, thing=thing), wanted, thing)
        if wanted is not None:
            told = self.refuses(NoAnswer, state_of, one, claim, thing)
            self.assertEqual(told.wrong, wanted)

    def test_form(self):
        paper = plain(FF, 1)
        for thing in [None, True, 0, "road", (), [], ("road",), ["road", []], ("road", [], []), ("model",),
                      ("model", None), ("model", None, None, None), ("open",), ("open", [paper], 9),
                      ("open", (paper,), 9, None), ("open", [], 9, None), ("open", [paper] * 7, 9, None),
                      ("open", [paper], 0, None), ("open", [paper], 61, None), ("open", [paper], True, None),
                      ("open", [paper], "9", None), ("open", [paper], None, None), ("open", None, 9, None),
                      ("open", [paper], 9, None, None), ("Open", [paper], 9, None), ("holds", []), (["road"], []), (None, None), nested(300)]:
            self.judged(FF, self.claim, thing, ("answer",))

    def test_a_road(self):
        road = road_for(FF, asked("f(f(x)) = x"))
        self.judged(FF, asked("f(f(x)) = x"), ("road", road), None)
        self.judged(FF, asked("f(f(y)) = y"), ("road", road), ("begin",))
        self.judged(FF, asked("f(f(x)) = y"), ("road", road), ("end",))
        self.judged((SIGNATURE, ()), asked("f(f(x)) = x"), ("road", road), ("line", 1))
        for thing in [None, [], tuple(road), road[1:], nested(299)]:
            self.judged(FF, asked("f(f(x)) = x"), ("road", thing), ("road",))
        self.assertEqual(state_of(kind=FF, equation=asked("f(f(x)) = x"), answer=("road", road)), "holds")

    def test_a_model(self):
        swap = (2, ((1, 0), (0,)))
        self.judged(FF, self.claim, ("model", swap, (0,)), None)
        self.judged(FF, self.claim, ("model", swap, (1,)), None)
        self.assertEqual(state_of(FF, self.claim, ("model", swap, (1,))), "refuted")
        for thing in [None, [2, ((1, 0), (0,))], (2, ((1, 0),)), (2, ((True, 0), (0,))), (7, ((1, 0), (0,))),
                      (2, ((0, 0), (0,))), (2, ((1, 2), (0,))), nested(299)]:
            self.judged(FF, self.claim, ("model", thing, None), ("model",))
        for thing in [None, 0, (), [0], (0, 0), (2,), (-1,), (True,), (False,), ("0",), nested(299)]:
            self.judged(FF, self.claim, ("model", swap, thing), ("worths",))
        fixed = (3, ((1, 0, 2), (0,)))
        self.judged(FF, self.claim, ("model", fixed, (2,)), ("alike",))
        self.judged(FF, self.claim, ("model", fixed, (0,)), None)
        self.judged(FF, asked("f(f(x)) = x"), ("model", fixed, (0,)), ("alike",))
        self.judged(FF, asked("x = y"), ("model", fixed, (0, 0)), ("alike",))
        self.judged(FF, asked("x = y"), ("model", fixed, (0, 1)), None)
        self.judged(FIX, self.claim, ("model", swap, (0,)), ("model",))

    def test_worths_in_the_order_of_letters(self):
        signature = (("m", 2),)
        first = (2, ((0, 0, 1, 1),))
        claim = asked("m(y, x) = x", signature)
        self.judged((signature, ()), claim, ("model", first, (0, 1)), None)
        self.judged((signature, ()), claim, ("model", first, (0, 0)), ("alike",))

    def test_open(self):
        papers = [plain(self.three, size) for size in (1, 2)]
        shut = shut_list(self.three, self.second)
        self.judged(self.three, self.second, ("open", papers, 9, shut), None)
        self.judged(self.three, self.second, ("open", papers, 60, None), None)
        six = [plain(FF, size) for size in range(1, 7)]
        self.judged(FF, asked("f(f(x)) = x"), ("open", six, 9, None), None)
        self.judged(self.three, self.second, ("open", papers[:1], 1, None), None)
        self.assertEqual(state_of(self.three, self.second, ("open", papers, 9, shut)), "open")

    def test_searches(self):
        papers = [plain(self.three, size) for size in (1, 2, 3)]
        for k in range(3):
            for thing in [None, (), papers, nested(290)]:
                told = papers[:k] + [thing] + papers[k + 1:]
                self.judged(self.three, self.second, ("open", told, 9, None), ("search", k + 1, ("paper",)))
        self.judged(self.three, self.second, ("open", papers[1:], 9, None), ("search", 1, ("tree", (0,))))
        self.judged(self.three, self.second, ("open", papers[:1] * 2, 9, None),
                    ("search", 2, search_judged(self.three, 2, papers[0])))
        self.judged(self.three, self.second, ("open", [papers[0], papers[2]], 9, None),
                    ("search", 2, search_judged(self.three, 2, papers[2])))
        broken = with_tree(papers[1], (0,), ("broken", 5, ()))
        self.judged(self.three, self.second, ("open", [papers[0], broken], 9, None), ("search", 2, ("tree", (0,))))
        self.judged(self.three, self.second, ("open", [papers[0], broken, None], 9, None),
                    ("search", 2, ("tree", (0,))))

    def test_leaves(self):
        papers = [plain(self.three, size) for size in (1, 2, 3, 4)]
        self.judged(self.three, self.second, ("open", papers, 9, None), ("leaf", 3))
        self.judged(self.three, self.second, ("open", papers[:3], 9, "none"), ("leaf", 3))
        self.judged(self.three, self.second, ("open", papers[:3] + [None], 9, None), ("search", 4, ("paper",)))
        self.judged(FF, (X, Y), ("open", [plain(FF, 1), plain(FF, 2)], 9, None), ("leaf", 2))

    def test_shut(self):
        papers = [plain(self.three, size) for size in (1, 2)]
        for thing in [(), 0, False, "none", [None], [X, X], nested(299)]:
            self.judged(self.three, self.second, ("open", papers, 9, thing), ("list",))
        shut = shut_list(self.three, self.second)
        self.judged(self.three, self.second, ("open", papers, 9, shut[1:]), ("begin",))
        self.judged(self.three, self.second, ("open", papers, 9, shut + [X]), ("end",))
        self.judged(self.three, self.second, ("open", papers, 9, shut[:1]), ("shut", 0))
        self.judged(self.three, self.second, ("open", papers, 9, shut + [term("e")]), ("shut", len(shut)))
        self.judged(self.three, self.second, ("open", papers, 12, shut), ("shut", len(shut) - 1))
        self.judged(self.three, self.second, ("open", papers, 3, shut[:1]), None)
        self.judged(self.three, asked("f(f(y)) = y"), ("open", papers, 9, shut), ("begin",))

    def test_answers_for_another_kind(self):
        told = answered(self.three, self.second, 2)
        self.judged(FF, self.second, told, ("search", 2, search_judged(FF, 2, told[1][1])))
        self.judged(FF, self.claim, answered(FF, self.claim, 2), None)
        self.judged(FIX, self.second, answered(FF, self.claim, 2), ("model",))

    def test_papers_of_others(self):
        chance = fixed_chance(34)
        for step in range(20):
            papers = [some_paper(chance, self.three, size) for size in (1, 2)]
            self.judged(self.three, self.second, ("open", papers, 9, None), None)

    def test_what_is_told_is_not_the_judges(self):
        told = answered(self.three, self.second, 2)
        spoil(told)
        self.judged(self.three, self.second, told, ("search", 1, ("paper",)))
        self.assertIsNone(answer_judged(self.three, self.second, answered(self.three, self.second, 2)))


if __name__ == "__main__":
    unittest.main()
