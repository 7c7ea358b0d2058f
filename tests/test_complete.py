"""Complete papers, and what they decide: points 65a to 65c."""

import copy
import unittest

from deedworlds.complete import complete_wrong, decided, decided_wrong, road_by
from deedworlds.completion import completed
from deedworlds.errors import NoEquation, NoKind, NoPaper, TooBig, TooMany
from deedworlds.overlaps import overlaps
from deedworlds.roads import road_judged
from tests.helpers import Checks, equation, fixed_chance, kind, nested, some_term, term, tower, var
from tests.ruling import all_uses, form, one_step

MONOID = kind("m/2 e/0", "m(m(x, y), z) = m(x, m(y, z))", "m(e, x) = x", "m(x, e) = x")
SIGNATURE = MONOID[0]
BY_ONES = ((1, 1), (0, 1))
LOOPS = kind("f/1 g/1", "f(f(x)) = g(f(x))", "g(g(x)) = x")
EMPTY = kind("f/1")


def paper_of(the_kind, weighing):
    told = completed(the_kind, weighing)
    assert told[0] == "complete"
    return told[1]


def pairs_in(paper):
    return [paper[1][place][:2] for place in paper[2]]


def changed(paper, at, thing):
    return paper[:at] + (thing,) + paper[at + 1:]


class PaperTest(Checks, unittest.TestCase):
    def setUp(self):
        self.paper = paper_of(MONOID, BY_ONES)

    def wrong(self, at, thing):
        return complete_wrong(MONOID, changed(self.paper, at, thing))

    def test_right(self):
        self.assertIsNone(complete_wrong(MONOID, self.paper))
        self.assertIsNone(complete_wrong(EMPTY, (((1,), (0,)), [], [], [], [])))
        # whoever wrote it: each join by the forms found here
        lemmas = [one_step(MONOID, k) for k in range(3)]
        for rules in ([0, 1, 2], [2, 1, 0]):
            pairs = [lemmas[place][:2] for place in rules]
            axioms = [(form(pairs, left)[1], form(pairs, right)[1]) for left, right in MONOID[1]]
            joins = [(form(pairs, row[4])[1], form(pairs, row[5])[1]) for row in overlaps(SIGNATURE, pairs)]
            self.assertIsNone(complete_wrong(MONOID, (BY_ONES, lemmas, rules, axioms, joins)))

    def test_each_answer(self):
        for thing in (None, (), [], self.paper[:4], list(self.paper), self.paper + (1,), nested(300), True, "paper"):
            self.assertEqual(complete_wrong(MONOID, thing), ("paper",))
        self.assertEqual(self.wrong(0, None), ("weighing", ("weighing",)))
        self.assertEqual(self.wrong(0, ((1, 0), (0, 1))), ("weighing", ("weights",)))
        self.assertEqual(self.wrong(1, None), ("lemmas", ("lemmas",)))
        lemmas = self.paper[1]
        odd = lemmas[:-1] + [lemmas[-1][:2] + ([],)]
        self.assertEqual(self.wrong(1, odd), ("lemmas", ("lemma", len(lemmas) - 1, ("road",))))
        self.assertEqual(self.wrong(2, None), ("rules", ("rules",)))
        self.assertEqual(self.wrong(2, [len(lemmas)]), ("rules", ("rules",)))
        turned = lemmas + [one_step(MONOID, 1, True)]
        self.assertEqual(complete_wrong(MONOID, (BY_ONES, turned, [len(lemmas)], [], [])), ("rules", ("rule", 0)))
        for thing in (None, (), self.paper[3][:-1], self.paper[3] + [([], [])]):
            self.assertEqual(self.wrong(3, thing), ("axioms",))
        for k in range(3):
            axioms = list(self.paper[3])
            axioms[k] = ([], [])
            self.assertEqual(self.wrong(3, axioms), ("axiom", k, ("apart",)))
            axioms[k] = None
            self.assertEqual(self.wrong(3, axioms), ("axiom", k, ("join",)))
            axioms[k] = ([(9, ())], [])
            self.assertEqual(self.wrong(3, axioms), ("axiom", k, ("use", 0, 0)))
        joins = self.paper[4]
        for thing in (None, (), joins[:-1], joins + [([], [])]):
            self.assertEqual(self.wrong(4, thing), ("overlaps",))
        pairs = pairs_in(self.paper)
        for k, row in enumerate(overlaps(SIGNATURE, pairs)):
            others = list(joins)
            others[k] = ([], [])
            self.assertEqual(self.wrong(4, others), None if row[4] == row[5] else ("overlap", k, ("apart",)))
            others[k] = ([], [(0, (0,) * 9)])
            self.assertEqual(self.wrong(4, others), ("overlap", k, ("use", 1, 0)))
            others[k] = [[], []]
            self.assertEqual(self.wrong(4, others), ("overlap", k, ("join",)))

    def test_a_rule_too_few(self):
        # the rules must be enough for the axioms and their own overlaps
        lemmas = [one_step(LOOPS, 0, True), one_step(LOOPS, 1)]
        paper = (((1, 1), (0, 1)), lemmas, [0, 1], [([], [(0, ())]), ([(1, ())], [])], [])
        self.assertEqual(complete_wrong(LOOPS, paper), ("overlaps",))
        joins = [([], []) for row in overlaps(LOOPS[0], pairs_in(paper))]
        told = complete_wrong(LOOPS, changed(paper, 4, joins))
        self.assertEqual((told[0], told[2]), ("overlap", ("apart",)))

    def test_too_big_overlaps(self):
        # m(m(x, x), y) over itself doubles: two rules whose overlap has more than sixty parts
        deep = kind("m/2 f/1", "m(x, y) = x", "m(x, x) = x")
        lemmas = [one_step(deep, 0), one_step(deep, 1)]
        big = tower("f", 31)
        line = (("deed", "m", (big, ("var", "y"))), None)
        lemma = (line[0], big, [line, (big, (0, False, (), (("x", big), ("y", var("y")))))])
        half = ("deed", "m", (var("y"), tower("f", 29, var("y"))))
        other = (half, var("y"), [(half, None), (var("y"), (0, False, (), (("x", var("y")), ("y", tower("f", 29, var("y"))))))])
        lemmas += [lemma, other]
        rules = [2, 3]
        paper = (((1, 1), (0, 1)), lemmas, rules, [([], [])] * 2, [])
        told = complete_wrong(deep, paper)
        self.assertEqual(told[0], "axiom")
        paper = (((1, 1), (0, 1)), lemmas, [0, 2, 3], [([(0, ())], []), ([(0, ())], [])], [])
        self.assertEqual(complete_wrong(deep, paper), ("overlaps",))

    def test_refused(self):
        self.refuses(NoKind, complete_wrong, 1, 2)
        equal = equation("m(e, e) = e", SIGNATURE)
        for function, more in ((decided, (equal,)), (decided_wrong, (equal, None)), (road_by, (equal,))):
            self.refuses(NoKind, function, 1, 2, *more)
            told = self.refuses(NoPaper, function, MONOID, self.paper[:4], 3, *more[1:])
            self.assertEqual(told.wrong, ("paper",))
            told = self.refuses(NoPaper, function, MONOID, changed(self.paper, 3, []), *more)
            self.assertEqual(told.wrong, ("axioms",))
            for thing in (3, None, (term("e", SIGNATURE),), (term("e", SIGNATURE), tower("f", 3))):
                self.refuses(NoEquation, function, MONOID, self.paper, thing, *more[1:])


class DecidedTest(Checks, unittest.TestCase):
    def test_by_chance(self):
        chance = fixed_chance(31)
        for the_kind, weighing, letters in ((MONOID, BY_ONES, "uv"), (LOOPS, ((1, 1), (0, 1)), "u"),
                                            (LOOPS, ((2, 1), (1, 0)), "u")):
            paper = paper_of(the_kind, weighing)
            pairs = pairs_in(paper)
            met = set()
            for k in range(120):
                asked = tuple(some_term(chance, the_kind[0], chance.randint(1, 9), letters) for side in range(2))
                told = decided(the_kind, paper, asked)
                ends = [form(pairs, side)[0] for side in asked]
                met.add(told[0])
                self.assertEqual(told[0], "holds" if ends[0] == ends[1] else "parted")
                self.assertIsNone(decided_wrong(the_kind, paper, asked, told))
                road = road_by(the_kind, paper, asked)
                more = changed(paper, 1, paper[1] + [one_step(the_kind, 0)] * 3)
                self.assertEqual(road_by(the_kind, more, asked), road)
                if told[0] == "holds":
                    self.assertIsNone(road_judged(the_kind, asked, road))
                    self.assertEqual(decided(the_kind, paper, asked[::-1])[0], "holds")
                else:
                    self.assertIsNone(road)
                    self.assertEqual(decided_wrong(the_kind, paper, asked, ("holds", told[1:])),
                                     ("join", ("apart",)))
            self.assertEqual(met, {"holds", "parted"})

    def test_each_answer(self):
        paper = paper_of(MONOID, BY_ONES)
        pairs = pairs_in(paper)
        unit = pairs.index(MONOID[1][1])
        holds = equation("m(e, u) = m(e, m(e, u))", SIGNATURE)
        parted = equation("m(e, u) = m(e, v)", SIGNATURE)
        for thing in (None, (), [], ("holds",), ("holds", 1, 2), ("parted", [], [], []), ("parted", [], ()),
                      ("parted", [], [1]), ("parted", [(True, ())], []), ("open", []), (1, 2), nested(300),
                      ["holds", ([], [])], ("parted", [(0, (-1,))], [])):
            self.assertEqual(decided_wrong(MONOID, paper, holds, thing), ("answer",))
        self.assertEqual(decided_wrong(MONOID, paper, holds, ("holds", 5)), ("join", ("join",)))
        self.assertEqual(decided_wrong(MONOID, paper, holds, ("holds", ([], []))), ("join", ("apart",)))
        self.assertEqual(decided_wrong(MONOID, paper, holds, ("holds", ([], [(9, ())]))), ("join", ("use", 1, 0)))
        self.assertIsNone(decided_wrong(MONOID, paper, holds, ("holds", ([], [(unit, ())]))))
        use = [(unit, ())]
        self.assertIsNone(decided_wrong(MONOID, paper, parted, ("parted", use, use)))
        self.assertEqual(decided_wrong(MONOID, paper, parted, ("parted", [], [])), ("end", 0))
        self.assertEqual(decided_wrong(MONOID, paper, parted, ("parted", use, [])), ("end", 1))
        self.assertEqual(decided_wrong(MONOID, paper, parted, ("parted", use, use + use)), ("use", 1, 1))
        self.assertEqual(decided_wrong(MONOID, paper, parted, ("parted", use + use, use + use)), ("use", 0, 1))
        self.assertEqual(decided_wrong(MONOID, paper, holds, ("parted", use, use + use)), ("same",))
        self.assertEqual(all_uses(pairs, term("u", SIGNATURE)), [])

    def test_refused_forms(self):
        grows = kind("f/1 g/1 h/1", "h(x) = f(f(f(f(f(f(x))))))", "f(g(x)) = g(f(x))")
        told = completed(grows, ((1, 1, 100), (1, 0, 2)))
        self.assertEqual(told[0], "complete")
        paper = told[1]
        big, small = tower("h", 12), var("x")
        self.refuses(TooBig, decided, grows, paper, (big, small))
        self.refuses(TooBig, decided, grows, paper, (small, big))
        self.refuses(TooBig, road_by, grows, paper, (big, big))
        many = small
        for letter in "g" * 2 + "h" * 9:
            many = ("deed", letter, (many,))
        uses = form(pairs_in(paper), many)
        self.assertEqual(decided(grows, paper, (many, many))[0], "holds")
        self.assertEqual(len(uses[1]), 9 + 54 * 2)
        # its forms' uses are few, spelt by equations the lines are as many: both rows together
        road = road_by(grows, paper, (many, many))
        self.assertIsNone(road_judged(grows, (many, many), road))

    def test_many_uses(self):
        swap = kind("f/1 g/1 h/1 i/1", "h(x) = f(f(f(f(f(f(f(f(f(f(f(x)))))))))))",
                    "i(x) = g(g(g(g(g(g(g(g(g(g(g(x)))))))))))", "f(g(x)) = g(f(x))")
        told = completed(swap, ((1, 1, 100, 100), (1, 0, 2, 3)))
        paper = told[1]
        one = var("x")
        for letter in "iihh":
            one = ("deed", letter, (one,))
        # 22 deeds f over 22 deeds g: 484 uses, and 4 more
        self.assertEqual(decided(swap, paper, (one, one))[0], "holds")
        self.refuses(TooMany, road_by, swap, paper, (one, one))
        more = one
        for letter in "f":
            more = ("deed", letter, (more,))
        self.refuses(TooMany, decided, swap, paper, (more, var("x")))
        self.refuses(TooMany, decided, swap, paper, (var("x"), more))
        big = var("x")
        for letter in "iihhhh":
            big = ("deed", letter, (big,))
        self.refuses(TooBig, decided, swap, paper, (big, more))
        self.refuses(TooMany, decided, swap, paper, (more, big))

    def test_own(self):
        paper = paper_of(LOOPS, ((1, 1), (0, 1)))
        asked = equation("f(f(f(f(x)))) = f(f(x))", LOOPS[0])
        kept = copy.deepcopy(paper)
        for function in (decided, road_by):
            self.own(function, LOOPS, paper, asked)
        self.own(decided, LOOPS, paper, equation("f(x) = x", LOOPS[0]))
        self.own(complete_wrong, LOOPS, paper)
        self.assertEqual(paper, kept)


if __name__ == "__main__":
    unittest.main()
