"""Completion by rounds, and papers made tidy: points 64a and 64b."""

import itertools
import unittest

from deedworlds.complete import complete_wrong
from deedworlds.completing import Completing
from deedworlds.completion import completed, rule_set, tidied
from deedworlds.errors import NoKind, NoNumber, NoPaper, NoWeighing, TooBig, TooMany
from deedworlds.forms import form_of
from deedworlds.lemmas import lemmas_wrong, rules_wrong
from deedworlds.overlaps import overlaps
from deedworlds.texts import term_text
from tests.helpers import Checks, fixed_chance, kind, nested, some_term
from tests.ruling import Rounds, form, is_tidy, one_step, rule_texts
from tests.test_complete import changed, pairs_in

KINDS = (
    ("f/1 g/1", "f(g(x)) = g(f(x))", "f(f(x)) = x"),
    ("m/2 e/0", "m(m(x, y), z) = m(x, m(y, z))", "m(e, x) = x", "m(x, e) = x"),
    ("m/2 e/0", "m(m(x, y), z) = m(x, m(y, z))", "m(x, x) = x"),
    ("m/2", "m(m(x, y), m(y, z)) = y"),
    ("m/2", "m(u, v) = m(v, u)"),
    ("m/2", "m(u, v) = m(v, u)", "m(u, u) = u"),
    ("f/1 g/1", "f(g(f(x))) = g(x)"),
    ("f/1 g/1", "f(f(x)) = g(f(x))", "g(g(x)) = x"),
    ("f/1 g/1", "f(g(f(x))) = g(f(g(x)))"),
    ("m/2 i/1", "m(i(x), m(x, y)) = y"),
    ("m/2 i/1 e/0", "m(e, x) = x", "m(i(x), m(x, y)) = y", "m(m(x, y), z) = m(x, m(y, z))"),
    ("a/0 b/0 c/0 f/1", "f(a) = b", "f(b) = c", "a = c"),
    ("m/2 n/2", "m(x, n(y, z)) = n(m(x, y), m(x, z))"),
    ("m/2 n/2", "m(m(u, v), m(x, y)) = n(u, y)"),
    ("f/1", "f(x) = f(y)"),
    ("f/1 e/0", "x = y"),
    ("f/1", "x = x", "f(f(f(x))) = f(f(x))", "f(f(x)) = f(f(x))"),
    ("f/1",),
)


def weighings(the_kind):
    many = len(the_kind[0])
    for rank in list(itertools.permutations(range(many)))[:4]:
        yield ((1,) * many, rank)
    yield (tuple(range(2, 2 + many)), tuple(range(many)))


def text_by(the_kind):
    return lambda one: term_text(the_kind[0], one)


class CompletedTest(Checks, unittest.TestCase):
    def hold_against(self, the_kind, weighing, **bounds):
        told = completed(the_kind, weighing, **bounds)
        rounds = Rounds(the_kind, weighing, **bounds)
        if rounds.ending == "complete":
            self.assertEqual(told[0], "complete")
            paper = told[1]
            self.assertEqual(paper[0], weighing)
            self.assertIsNone(complete_wrong(the_kind, paper))
            self.assertTrue(is_tidy(pairs_in(paper)))
            chance = fixed_chance(41)
            for k in range(10):
                one = some_term(chance, the_kind[0], 8, "uv")
                self.assertEqual(form(pairs_in(paper), one)[0], form(rounds.rules, one)[0])
            return "complete"
        word, lemmas, rules, left = told
        self.assertEqual(word, "stopped")
        self.assertIsNone(lemmas_wrong(the_kind, lemmas))
        self.assertIsNone(rules_wrong(the_kind, weighing, lemmas, rules))
        pairs = [lemmas[place][:2] for place in rules]
        self.assertEqual(pairs, rounds.rules)
        self.assertEqual(len(set(left)), len(left))
        for place in left:
            ends = [form(pairs, side)[0] for side in lemmas[place][:2]]
            self.assertNotEqual(ends[0], ends[1])
        self.assertTrue(left or rounds.ending == "at once")
        return rounds.ending

    def test_against_rounds(self):
        met = set()
        for lines in KINDS:
            the_kind = kind(*lines)
            for weighing in weighings(the_kind):
                met.add(self.hold_against(the_kind, weighing, most=9, parts=12))
        self.assertEqual(met, {"complete", "stopped", "at once"})

    def test_bounds(self):
        the_kind, weighing = kind(*KINDS[7]), ((1, 1), (0, 1))
        # three rules are met on the way, the greatest side has four parts
        self.assertEqual(len(Rounds(the_kind, weighing).rules), 3)
        for most in (1, 2, 3, 4, 40):
            self.assertEqual(self.hold_against(the_kind, weighing, most=most),
                             "complete" if most >= 3 else "at once")
        for parts in (1, 2, 3, 4, 25):
            self.assertEqual(self.hold_against(the_kind, weighing, parts=parts),
                             "complete" if parts >= 4 else "at once")
        the_kind = kind("f/1 g/1", "f(x) = x", "g(x) = f(f(x))", "g(g(x)) = x")
        for most in (1, 2, 3):
            self.hold_against(the_kind, ((1, 1), (0, 1)), most=most)
        for parts in (1, 2, 3):
            self.hold_against(the_kind, ((1, 5), (0, 1)), parts=parts)

    def test_by_chance(self):
        chance = fixed_chance(42)
        signature = (("f", 1), ("g", 1), ("e", 0))
        for k in range(40):
            equations = []
            for n in range(chance.randint(1, 3)):
                equations.append(tuple(some_term(chance, signature, chance.randint(1, 5), "uv") for side in range(2)))
            weights = tuple(chance.randint(1, 3) for deed in signature)
            rank = tuple(chance.sample(range(3), 3))
            self.hold_against((signature, tuple(equations)), (weights, rank), most=8, parts=10)

    def test_looked_at_too_many(self):
        # of this kind a rule is put at the 2000th one gone over, and one more would be at the next
        the_kind = kind("m/2 f/1", "m(u, f(v)) = m(v, u)", "f(m(u, v)) = m(m(v, f(u)), f(v))")
        weighing = ((1, 1), (1, 0))
        told = completed(the_kind, weighing)
        rounds = Rounds(the_kind, weighing)
        self.assertEqual((rounds.ending, rounds.looked), ("at once", 2000))
        self.assertEqual([told[1][place][:2] for place in told[2]], rounds.rules)
        self.assertIsNone(lemmas_wrong(the_kind, told[1]))

    def test_known_rules(self):
        the_kind = kind(*KINDS[9])
        told = completed(the_kind, ((1, 1), (0, 1)))
        self.assertEqual([tuple(map(text_by(the_kind), pair)) for pair in rule_set(the_kind, told[1])],
                         [("m(i(i(u)), v)", "m(u, v)"), ("m(i(u), m(u, v))", "v"), ("m(u, m(i(u), v))", "v")])
        commuting = kind("m/2", "m(u, v) = m(v, u)")
        word, lemmas, rules, left = completed(commuting, ((1,), (0,)))
        self.assertEqual((word, rules, len(left)), ("stopped", [], 1))
        self.assertEqual(completed(kind("f/1"), ((3,), (0,))), ("complete", (((3,), (0,)), [], [], [], [])))

    def test_one_set_for_one_kind(self):
        base = ("m(m(x, y), m(y, z)) = y",)
        same = (base, ("y = m(m(x, y), m(y, z))",), ("m(m(u, z), m(z, v)) = z",),
                base + ("m(m(x, y), m(y, y)) = y",), ("m(m(x, y), m(y, y)) = y",) + base,
                base + ("m(x, m(m(x, y), z)) = m(x, y)",))
        sets = []
        for lines in same:
            the_kind = kind("m/2", *lines)
            told = completed(the_kind, ((1,), (0,)))
            self.assertEqual(told[0], "complete")
            sets.append(rule_set(the_kind, told[1]))
        self.assertEqual([one for one in sets if one != sets[0]], [])
        self.assertEqual(len(sets[0]), 3)

    def test_refused(self):
        the_kind, weighing = kind(*KINDS[0]), ((1, 1), (0, 1))
        self.refuses(NoKind, completed, 1, 2, most=3, parts=4.5)
        for thing in (2, None, ((1,), (0, 1)), nested(300)):
            self.refuses(NoWeighing, completed, the_kind, thing, most=0)
        for thing in (0, 41, -1, True, None, "3", [3], nested(300)):
            self.refuses(NoNumber, completed, the_kind, weighing, most=thing)
            self.refuses(NoNumber, completed, the_kind, weighing, parts=thing)
        self.refuses(NoNumber, completed, the_kind, weighing, parts=26)
        completed(the_kind, weighing, parts=25, most=40)

    def test_own(self):
        self.own(completed, kind(*KINDS[7]), ((1, 1), (0, 1)))
        self.own(completed, kind(*KINDS[2]), ((1, 1), (0, 1)))


class TidiedTest(Checks, unittest.TestCase):
    def untidy(self):
        """A complete paper with a rule twice, one with a left term in which others are used, one with a right one."""
        the_kind = kind("f/1 g/1 e/0", "f(f(x)) = f(x)", "g(x) = f(f(x))", "f(f(y)) = f(y)", "g(f(x)) = f(x)")
        lemmas = [one_step(the_kind, k) for k in range(4)]
        rules = [3, 1, 2, 0]
        pairs = [lemmas[place][:2] for place in rules]
        axioms = [(form(pairs, left)[1], form(pairs, right)[1]) for left, right in the_kind[1]]
        joins = [(form(pairs, row[4])[1], form(pairs, row[5])[1]) for row in overlaps(the_kind[0], pairs)]
        return the_kind, (((1, 5, 1), (0, 1, 2)), lemmas, rules, axioms, joins)

    def test_tidied(self):
        the_kind, paper = self.untidy()
        self.assertIsNone(complete_wrong(the_kind, paper))
        self.assertFalse(is_tidy(pairs_in(paper)))
        told = tidied(the_kind, paper)
        self.assertIsNone(complete_wrong(the_kind, told))
        self.assertTrue(is_tidy(pairs_in(told)))
        self.assertEqual(told[0], paper[0])
        text = text_by(the_kind)
        self.assertEqual(rule_texts(pairs_in(told), text), [("f(f(u))", "f(u)"), ("g(u)", "f(u)")])
        self.assertEqual([tuple(map(text, pair)) for pair in rule_set(the_kind, told)],
                         [("f(f(u))", "f(u)"), ("g(u)", "f(u)")])
        chance = fixed_chance(43)
        for k in range(40):
            one = some_term(chance, the_kind[0], 9)
            self.assertEqual(form_of(the_kind, *paper[:3], one)[0], form_of(the_kind, *told[:3], one)[0])
        self.assertEqual(rule_set(the_kind, tidied(the_kind, told)), rule_set(the_kind, told))
        self.own(tidied, the_kind, paper)

    def test_rule_set_untidy(self):
        the_kind, paper = self.untidy()
        text = text_by(the_kind)
        self.assertEqual([tuple(map(text, pair)) for pair in rule_set(the_kind, paper)],
                         [("f(f(u))", "f(u)"), ("f(f(u))", "f(u)"), ("g(f(u))", "f(u)"), ("g(u)", "f(f(u))")])
        self.own(rule_set, the_kind, paper)

    def test_refused(self):
        the_kind, paper = self.untidy()
        for function in (tidied, rule_set):
            self.refuses(NoKind, function, 1, 2)
            for thing, wrong in ((None, ("paper",)), (changed(paper, 3, 1), ("axioms",)),
                                 (changed(paper, 2, [0, 0]), ("rules", ("rules",)))):
                self.assertEqual(self.refuses(NoPaper, function, the_kind, thing).wrong, wrong)

    def test_too_many_and_too_big(self):
        # the form of the right side h(h(..)) is greater than sixty parts, though each join is short
        line = "h(x) = f(f(f(f(f(f(f(f(f(f(f(x)))))))))))"
        the_kind = kind("f/1 h/1 k/1", line, "k(x) = h(h(h(h(h(h(x))))))", "k(x) = h(h(h(h(h(h(x))))))")
        lemmas = [one_step(the_kind, 0), one_step(the_kind, 1)]
        weighing = ((1, 20, 1000), (0, 1, 2))
        axioms = [([(0, ())], []), ([(1, ())], []), ([(1, ())], [])]
        paper = (weighing, lemmas, [0, 1], axioms, [])
        self.assertIsNone(complete_wrong(the_kind, paper))
        self.refuses(TooBig, tidied, the_kind, paper)
        self.assertEqual(completed(the_kind, weighing)[0], "stopped")
        self.assertEqual(len(rule_set(the_kind, paper)), 2)
        # both sides of the last equation want more than 500 uses to their form: 33 deeds over 22
        lines = [line, "i(x) = g(g(g(g(g(g(g(g(g(g(g(x)))))))))))", "f(g(x)) = g(f(x))",
                 "h(h(h(i(i(x))))) = h(h(h(i(i(x)))))"]
        swap = kind("f/1 g/1 h/1 i/1", *lines)
        weighing = ((1, 1, 100, 100), (1, 0, 2, 3))
        steps = [one_step(swap, k) for k in range(3)]
        self.assertEqual(form([step[:2] for step in steps], swap[1][3][0]), "many")
        axioms = [([(0, ())], []), ([(1, ())], []), ([(2, ())], []), ([], [])]
        paper = (weighing, steps, [0, 1, 2], axioms, [])
        self.assertIsNone(complete_wrong(swap, paper))
        self.refuses(TooMany, tidied, swap, paper)
        told = completed(swap, weighing)
        self.assertEqual((told[0], [told[1][place][:2] for place in told[2]]), ("stopped", [step[:2] for step in steps]))
        less = kind("f/1 g/1 h/1 i/1", *lines[:3])
        self.assertEqual(completed(less, weighing)[0], "complete")

    def test_too_many_lemmas(self):
        # each lemma goes by the one ahead; the rule with a right term that isn't its form wants one more
        the_kind = kind("f/1 g/1", "f(x) = x", "g(x) = f(x)")
        for many, error in ((198, False), (199, True)):
            lemmas = [one_step(the_kind, 0)]
            while len(lemmas) < many:
                left, right, lines = lemmas[0]
                reason = (2 + len(lemmas) - 1,) + lines[1][1][1:]
                lemmas.append((left, right, [lines[0], (right, reason)]))
            lemmas.append(one_step(the_kind, 1))
            paper = (((1, 2), (0, 1)), lemmas, [many - 1, many], [([(0, ())], []), ([(1, ())], [])], [])
            self.assertIsNone(complete_wrong(the_kind, paper))
            if error:
                self.refuses(TooMany, tidied, the_kind, paper)
            else:
                told = tidied(the_kind, paper)
                self.assertIsNone(complete_wrong(the_kind, told))
                self.assertEqual(len(told[1]), 200)
                self.assertEqual(len(rule_set(the_kind, told)), 2)

    def test_room_for_those_left(self):
        the_kind = kind(*KINDS[2])
        completing = Completing(the_kind, ((1, 1), (0, 1)), 40, 25)
        left = completing.left_of_rounds()
        many = len(completing.lemmas)
        word, lemmas, rules, places = completing.stopped(left * 50)
        self.assertGreater(len(left) * 50, 200)
        self.assertEqual((len(lemmas), rules, places), (200, list(range(many)), list(range(many, 200))))

    def test_stays_complete(self):
        for lines in KINDS:
            the_kind = kind(*lines)
            for weighing in weighings(the_kind):
                told = completed(the_kind, weighing, most=12, parts=15)
                if told[0] == "complete":
                    again = tidied(the_kind, told[1])
                    self.assertIsNone(complete_wrong(the_kind, again))
                    self.assertEqual(rule_set(the_kind, again), rule_set(the_kind, told[1]))


if __name__ == "__main__":
    unittest.main()
