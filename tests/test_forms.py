"""Forms of terms by rules, and roads along uses: point 62d."""

import unittest

from deedworlds.errors import NoKind, NoLemmas, NoRules, NoTerm, NoUse, NoWeighing, TooBig, TooMany
from deedworlds.forms import form_of, uses_road
from deedworlds.lemmas import lemmas_wrong, pairs_of
from tests.helpers import Checks, count_parts, fixed_chance, kind, nested, some_term, term, var
from tests.ruling import form, one_step

SWAP = kind("f/1 g/1 h/1", "f(g(x)) = g(f(x))", "h(x) = f(f(x))", "h(g(x)) = x")
WEIGHING = ((1, 1, 100), (1, 0, 2))
LEMMAS = [one_step(SWAP, 2), one_step(SWAP, 0), one_step(SWAP, 1), one_step(SWAP, 1, True)]
RULES = [1, 2]
GROUP = kind("m/2 e/0", "m(m(x, y), z) = m(x, m(y, z))", "m(e, x) = x", "m(x, e) = x")
BY_ONES = ((1, 1), (0, 1))


def word(letters, last=var("x")):
    told = last
    for letter in letters[::-1]:
        told = ("deed", letter, (told,))
    return told


class FormTest(Checks, unittest.TestCase):
    def told(self, one, rules=RULES):
        return form_of(SWAP, WEIGHING, LEMMAS, rules, one)

    def test_plain(self):
        self.assertEqual(self.told(word("fgx"[:2])), (word("gf"), [(0, ())]))
        self.assertEqual(self.told(word("gfh")), (word("gfff"), [(1, (0, 0))]))
        self.assertEqual(self.told(var("u")), (var("u"), []))
        self.assertEqual(self.told(word("hg")), (word("gff"), [(1, ()), (0, (0,)), (0, ())]))
        self.assertEqual(self.told(word("hg"), [0, 1, 2]), (var("x"), [(0, ())]))
        self.assertEqual(self.told(word("hg"), []), (word("hg"), []))

    def test_by_chance(self):
        chance = fixed_chance(21)
        for rules in ([1, 2], [2, 1], [0, 1, 2], [2, 0, 1]):
            pairs = pairs_of(SWAP, WEIGHING, LEMMAS, rules)
            for k in range(60):
                one = word("".join(chance.choice("fgh") for n in range(chance.randint(0, 12))))
                self.assertEqual(self.told(one, rules), form(pairs, one))
        lemmas = [one_step(GROUP, k) for k in range(3)]
        pairs = pairs_of(GROUP, BY_ONES, lemmas, [0, 1, 2])
        for k in range(150):
            one = some_term(chance, GROUP[0], chance.randint(1, 20), "uvx")
            self.assertEqual(form_of(GROUP, BY_ONES, lemmas, [0, 1, 2], one), form(pairs, one))

    def test_many_uses(self):
        end, uses = self.told(word("f" * 20 + "g" * 25))
        self.assertEqual((end, len(uses)), (word("g" * 25 + "f" * 20), 500))
        self.refuses(TooMany, self.told, word("f" * 20 + "g" * 24 + "fg"))

    def test_big(self):
        self.assertEqual(count_parts(self.told(word("h" + "f" * 57))[0]), 60)
        self.assertEqual(self.told(word("f" * 57 + "h")), (word("f" * 59), [(1, (0,) * 57)]))
        self.refuses(TooBig, self.told, word("h" + "f" * 58))
        self.refuses(TooBig, self.told, word("hh" + "f" * 56))
        self.refuses(TooBig, self.told, word("f" * 58 + "h"))

    def test_which_comes_first(self):
        # outer uses come first: 500 of them, then one that leads beyond; or one that leads beyond, then the others
        low = word("f" * 20 + "g" * 25 + "h" * 14)
        self.assertEqual(count_parts(low), 60)
        self.refuses(TooMany, self.told, low)
        high = word("h" * 14 + "f" * 20 + "g" * 25)
        self.refuses(TooBig, self.told, high)

    def test_refused(self):
        self.refuses(NoKind, form_of, 1, 2, 3, 4, 5)
        self.refuses(NoWeighing, form_of, SWAP, 2, 3, 4, 5)
        self.refuses(NoLemmas, form_of, SWAP, WEIGHING, 3, 4, 5)
        for rules in (4, (1, 2), [1, 1], [True], [4], [-1], [3], ["1"]):
            self.refuses(NoRules, form_of, SWAP, WEIGHING, LEMMAS, rules, 5)
            self.refuses(NoRules, uses_road, SWAP, WEIGHING, LEMMAS, rules, 5, [])
        for one in (5, None, ("var", "t"), word("f" * 60), nested(300)):
            self.refuses(NoTerm, form_of, SWAP, WEIGHING, LEMMAS, RULES, one)
            self.refuses(NoTerm, uses_road, SWAP, WEIGHING, LEMMAS, RULES, one, [None])
        self.own(form_of, SWAP, WEIGHING, LEMMAS, RULES, word("fghg"))


class RoadTest(Checks, unittest.TestCase):
    def told(self, one, uses):
        return uses_road(SWAP, WEIGHING, LEMMAS, RULES, one, uses)

    def test_let_by(self):
        chance = fixed_chance(22)
        for k in range(60):
            one = word("".join(chance.choice("fgh") for n in range(chance.randint(0, 12))))
            end, uses = form_of(SWAP, WEIGHING, LEMMAS, RULES, one)
            lines = self.told(one, uses)
            self.assertEqual([reason and reason[:3] for told, reason in lines],
                             [None] + [(3 + RULES[k], False, path) for k, path in uses])
            self.assertIsNone(lemmas_wrong(SWAP, LEMMAS + [(one, end, lines)]))
        self.own(uses_road, SWAP, WEIGHING, LEMMAS, RULES, word("fghg"), [(0, ()), (1, (0, 0))])

    def test_many(self):
        one = word("f" * 20 + "g" * 25)
        end, uses = form_of(SWAP, WEIGHING, LEMMAS, RULES, one)
        self.assertIsNone(lemmas_wrong(SWAP, LEMMAS + [(one, end, self.told(one, uses))]))
        lemmas = [one_step(GROUP, k) for k in range(3)]
        one = term("m(m(u, e), m(e, x))", GROUP[0])
        end, uses = form_of(GROUP, BY_ONES, lemmas, [2, 0, 1], one)
        lines = uses_road(GROUP, BY_ONES, lemmas, [2, 0, 1], one, uses)
        self.assertIsNone(lemmas_wrong(GROUP, lemmas + [(one, term("m(u, x)", GROUP[0]), lines)]))

    def test_no_use(self):
        one = word("fgfg")
        right = [(0, ()), (0, (0, 0)), (0, (0,))]
        self.assertEqual(len(self.told(one, right)), 4)
        odd = (None, 1, "f", True, (), (0,), [0, ()], (0, []), (True, ()), (0, (True,)), (2, ()), (-1, ()), (1, ()),
               (0, (0,) * 9), (0, (), ()), nested(300))
        for at in range(3):
            for thing in odd:
                told = self.refuses(NoUse, self.told, one, right[:at] + [thing] + right[at + 1:])
                self.assertEqual(told.at, at)
        self.assertEqual(self.refuses(NoUse, self.told, word("f" * 58 + "h"), [(1, (0,) * 58)]).at, 0)
        self.assertEqual(self.refuses(NoUse, self.told, one, right + [(0, ())] * 2).at, 3)


if __name__ == "__main__":
    unittest.main()
