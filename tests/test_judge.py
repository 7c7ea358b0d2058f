"""One judge for all answers to a claim: points 69a and 69b."""

import unittest

from deedworlds.answers import answered
from deedworlds.complete import decided
from deedworlds.completion import completed
from deedworlds.errors import NoAnswer, NoEquation, NoKind, NoNumber, NoPaper, NoSize, TooBig, TooMany
from deedworlds.judge import claim_judged, claim_state, found_answer
from tests.helpers import Checks, equation, kind, lists_in, nested, tower, var

LOOPS = kind("f/1 g/1", "f(f(x)) = g(f(x))", "g(g(x)) = x")
OTHER = kind("f/1 g/1", "f(f(x)) = g(f(x))", "g(g(x)) = x", "f(x) = x")
PAPER = completed(LOOPS, ((1, 1), (0, 1)))[1]
HOLDS = equation("f(f(f(x))) = f(x)", LOOPS[0])
PARTED = equation("f(x) = x", LOOPS[0])


class JudgedTest(Checks, unittest.TestCase):
    def test_all_words(self):
        for asked, state in ((HOLDS, "holds"), (PARTED, "refuted")):
            for answer in (answered(LOOPS, asked, 2), found_answer(LOOPS, asked, 2, paper=PAPER)):
                self.assertIsNone(claim_judged(LOOPS, asked, answer))
                self.assertEqual(claim_state(LOOPS, asked, answer), state)
        commuting = kind("m/2", "m(x, y) = m(y, x)", "m(x, m(x, y)) = y", "m(x, x) = x")
        claim = equation("m(m(x, y), z) = m(m(y, x), m(z, z))", commuting[0])
        self.assertEqual(claim_state(commuting, claim, answered(commuting, claim, 2)), "holds")
        hidden = equation("m(x, y) = m(y, m(x, x))", commuting[0])
        answer = answered(commuting, hidden, 1, parts=3)
        self.assertEqual(answer[0], "open")
        self.assertEqual(claim_state(commuting, hidden, answer), "open")

    def test_forms(self):
        for thing in (None, (), [], "rules", ("rules",), ("rules", PAPER), ("rules", PAPER, 1, 2), ["rules", PAPER, 1],
                      ("road",), ("model", 1), ("open", [], 1, 2), nested(300), ("holds", 1), (True,), ([], 1, 2)):
            self.assertEqual(claim_judged(LOOPS, HOLDS, thing), ("answer",))
            self.assertEqual(self.refuses(NoAnswer, claim_state, LOOPS, HOLDS, thing).wrong, ("answer",))
        self.assertEqual(claim_judged(LOOPS, HOLDS, ("road", 1)), ("road",))
        self.assertEqual(claim_judged(LOOPS, HOLDS, ("model", 1, 2)), ("model",))
        self.assertEqual(claim_judged(LOOPS, HOLDS, ("open", [1], 3, None)), ("search", 1, ("paper",)))

    def test_rules(self):
        right = decided(LOOPS, PAPER, HOLDS)
        self.assertIsNone(claim_judged(LOOPS, HOLDS, ("rules", PAPER, right)))
        self.assertEqual(claim_judged(LOOPS, HOLDS, ("rules", 1, right)), ("paper", ("paper",)))
        self.assertEqual(claim_judged(LOOPS, HOLDS, ("rules", PAPER[:4] + (None,), None)), ("paper", ("overlaps",)))
        self.assertEqual(claim_judged(LOOPS, HOLDS, ("rules", PAPER, None)), ("answer",))
        self.assertEqual(claim_judged(LOOPS, HOLDS, ("rules", PAPER, ("holds", 1))), ("join", ("join",)))
        self.assertEqual(claim_judged(LOOPS, PARTED, ("rules", PAPER, right)), ("join", ("use", 0, 0)))
        self.assertEqual(claim_judged(LOOPS, HOLDS, ("rules", PAPER, ("parted", [], []))), ("end", 0))
        self.assertEqual(claim_judged(LOOPS, PARTED, ("rules", PAPER, ("holds", ([], [])))), ("join", ("apart",)))
        self.assertEqual(claim_judged(LOOPS, HOLDS, ("rules", PAPER, ("parted",) + right[1])), ("same",))
        # right for one kind, not for another
        self.assertEqual(claim_judged(OTHER, HOLDS, ("rules", PAPER, right))[1][0], "lemmas")
        less = kind("f/1 g/1", "g(g(x)) = x", "f(f(x)) = g(f(x))")
        self.assertEqual(claim_judged(less, HOLDS, ("rules", PAPER, right))[:1], ("paper",))
        model = answered(LOOPS, PARTED, 2)
        self.assertEqual(claim_judged(OTHER, PARTED, model), ("model",))

    def test_refused(self):
        for function in (claim_judged, claim_state):
            self.refuses(NoKind, function, 1, 2, 3)
            for thing in (2, None, (var("x"),), (var("x"), tower("f", 13))):
                self.refuses(NoEquation, function, LOOPS, thing, 3)
                self.refuses(NoEquation, function, LOOPS, thing, ("rules", 1, 2))
                self.refuses(NoEquation, function, LOOPS, thing, ("rules", 1))


class FoundTest(Checks, unittest.TestCase):
    def test_with_a_paper(self):
        for asked in (HOLDS, PARTED):
            told = found_answer(LOOPS, asked, 2, paper=PAPER)
            self.assertEqual(told, ("rules", PAPER, decided(LOOPS, PAPER, asked)))
            self.own(found_answer, LOOPS, asked, 2, paper=PAPER)
        self.assertGreater(len(list(lists_in(PAPER))), 5)
        # sizes and parts aren't looked at then
        self.assertEqual(found_answer(LOOPS, HOLDS, 99, paper=PAPER, parts=0)[0], "rules")

    def test_without(self):
        for asked in (HOLDS, PARTED):
            for size in (1, 2):
                self.assertEqual(found_answer(LOOPS, asked, size), answered(LOOPS, asked, size))
                self.assertEqual(found_answer(LOOPS, asked, size, paper=None, parts=2),
                                 answered(LOOPS, asked, size, parts=2))
        self.own(found_answer, LOOPS, PARTED, 1, parts=2)

    def test_refused(self):
        self.refuses(NoKind, found_answer, 1, 2, 3, paper=4)
        self.refuses(NoEquation, found_answer, LOOPS, 2, 3, paper=4)
        for paper, wrong in ((4, ("paper",)), (False, ("paper",)), ((), ("paper",)), (PAPER[:4] + ([],), ("overlaps",)),
                             (nested(300), ("paper",))):
            self.assertEqual(self.refuses(NoPaper, found_answer, LOOPS, HOLDS, 0, paper=paper, parts=0).wrong, wrong)
        for size in (0, 7, True, None, "2", nested(300)):
            self.refuses(NoSize, found_answer, LOOPS, HOLDS, size, parts=0)
        for parts in (0, 61, True, None, nested(300)):
            self.refuses(NoNumber, found_answer, LOOPS, HOLDS, 1, parts=parts)
        wide = kind("m/2")
        claim = equation("m(x, y) = m(x, m(y, y))", wide[0])
        self.assertEqual(found_answer(wide, claim, 2, parts=5)[0], "model")
        commuting = kind("m/2", "m(x, y) = m(y, x)")
        self.refuses(TooMany, found_answer, commuting, equation("m(x, m(y, z)) = m(m(z, y), x)", wide[0]), 6, parts=3)
        grows = kind("f/1 g/1 h/1", "h(x) = f(f(f(f(f(f(x))))))", "f(g(x)) = g(f(x))")
        paper = completed(grows, ((1, 1, 100), (1, 0, 2)))[1]
        self.refuses(TooBig, found_answer, grows, (tower("h", 12), var("x")), 2, paper=paper)


if __name__ == "__main__":
    unittest.main()
