"""Points 62a, 62b and 62c: lemmas, lemmas spelt out, and rules."""

import unittest
from unittest import mock

from deedworlds.errors import NoKind, NoLemmas, NoNumber, NoRules, NoWeighing, TooBig, TooMany
from deedworlds.lemmas import MOST_LEMMAS, lemmas_wrong, pairs_of, rules_wrong, spelt
from deedworlds.roads import road_wrong
from deedworlds.weights import compared
from tests.helpers import (
    Checks, count_parts, deed, fixed_chance, kind, letters_in, nested, some_term, term, tower, var,
)
from tests.walks import all_steps, judged, put, with_at

ONE = kind("m/2 f/1 e/0", "m(e, x) = x", "m(x, y) = m(y, x)", "f(f(x)) = m(x, z)")
FF = kind("m/2 f/1 e/0", "f(f(x)) = x")
SIGNATURE = ONE[0]
X, Y, Z, E = var("x"), var("y"), var("z"), term("e")
WEIGHING = ((1, 1, 1), (2, 1, 0))
# by equations, by a lemma ahead, and by the same one turned about
BASE = (term("m(x, e)"), X, [(term("m(x, e)"), None), (term("m(e, x)"), (1, False, (), (("x", X), ("y", E)))),
                             (X, (0, False, (), (("x", X),)))])
NEXT = (term("f(m(y, e))"), term("f(y)"), [(term("f(m(y, e))"), None), (term("f(y)"), (3, False, (0,), (("x", Y),)))])
BACK = (term("f(y)"), term("f(m(m(y, e), e))"), [
    (term("f(y)"), None), (term("f(m(y, e))"), (4, True, (), (("y", Y),))),
    (term("f(m(m(y, e), e))"), (3, True, (0,), (("x", term("m(y, e)")),)))])
LEMMAS = [BASE, NEXT, BACK]
NO_LEMMAS = [None, True, 0, "x", (), tuple(LEMMAS), {"a": 1}, [None], [()], [BASE[:2]], [BASE + (None,)], [list(BASE)],
             [(None,) + BASE[1:]], [(BASE[0], None, BASE[2])], [(tower("f", 61),) + BASE[1:]],
             [(BASE[0], tower("f", 61), BASE[2])], [BASE, None], nested(300), [nested(299)]]


def as_pairs(one, lemmas):
    return one[1] + tuple((left, right) for left, right, lines in lemmas)


def wrong_by_words(one, lemmas):
    for k, (left, right, lines) in enumerate(lemmas):
        wrong = judged(one[0], as_pairs(one, lemmas[:k]), (left, right), lines)
        if wrong is not None:
            return ("lemma", k, wrong)
    return None


def spelt_by_words(one, lemmas, place):
    """The road that comes by putting, line for line, as 62b tells it; may be long and big."""
    left, right, lines = lemmas[place]
    told = [lines[0]]
    for line, reason in lines[1:]:
        number, turned, path, pairs = reason
        if number < len(one[1]):
            told.append((line, reason))
            continue
        ahead = told[-1][0]
        by = dict(pairs)
        inner = [(with_at(ahead, path, put(there, by)), why and why[:2] + (path + why[2], tuple(
            (name, put(one_put, by)) for name, one_put in why[3])))
            for there, why in spelt_by_words(one, lemmas, number - len(one[1]))]
        if turned:
            reasons = [(why[0], not why[1]) + why[2:] for there, why in inner[1:]][::-1]
            inner = list(zip([there for there, why in inner][::-1], [None] + reasons))
        told += inner[1:]
    return told


def some_lemmas(chance, one, many, steps, parts=16):
    """Lemmas by chance, of roads by the kind's equations and by the lemmas ahead."""
    told = []
    for k in range(many):
        begin = some_term(chance, SIGNATURE, 6, "xyz")
        lines = [(begin, None)]
        for step in range(chance.randrange(steps + 1)):
            ways = list(all_steps(as_pairs(one, told), lines[-1][0], [X, Z, E], parts))
            by_lemmas = [way for way in ways if way[1][0] >= len(one[1])]
            ways = by_lemmas if by_lemmas and chance.random() < 0.7 else ways
            if ways:
                lines.append(chance.choice(ways))
        told.append((begin, lines[-1][0], lines))
    return told


def back_and_forth(steps):
    """A lemma of so many steps by f(f(x)) = x."""
    terms = [X if k % 2 == 0 else term("f(f(x))") for k in range(steps + 1)]
    lines = [(one, (0, k % 2 == 1, (), (("x", X),)) if k else None) for k, one in enumerate(terms)]
    return (X, terms[-1], lines)


class LemmasTest(Checks, unittest.TestCase):
    def wrong(self, thing, wanted, one=ONE):
        """Whether lemmas_wrong tells this, and whatever gets lemmas refuses with it."""
        self.assertEqual(lemmas_wrong(kind=one, thing=thing), wanted)
        if wanted is not None:
            for function, things in [(spelt, (one, thing, 0)), (rules_wrong, (one, WEIGHING, thing, [])),
                                     (pairs_of, (one, WEIGHING, thing, []))]:
                self.assertEqual(self.refuses(NoLemmas, function, *things).wrong, wanted)

    def test_right_ones(self):
        for many in range(4):
            self.wrong(LEMMAS[:many], None)
        self.assertEqual(MOST_LEMMAS, 200)

    def test_no_lemmas(self):
        for thing in NO_LEMMAS:
            self.wrong(thing, ("lemmas",))

    def test_refusals(self):
        for thing in [None, (), SIGNATURE, (SIGNATURE, [])]:
            self.refuses(NoKind, lemmas_wrong, thing, None)
            self.refuses(NoKind, spelt, thing, None, None)
            self.refuses(NoKind, rules_wrong, thing, None, None, None)
            self.refuses(NoKind, pairs_of, thing, None, None, None)

    def test_lines(self):
        for thing in [None, (), [], "x", tuple(BASE[2]), BASE[2][1:], [None], nested(297)]:
            self.wrong([BASE[:2] + (thing,)], ("lemma", 0, ("road",)))
            self.wrong([BASE, NEXT[:2] + (thing,)], ("lemma", 1, ("road",)))
        self.wrong([(X, X, BASE[2])], ("lemma", 0, ("begin",)))
        self.wrong([BASE, (NEXT[0], X, NEXT[2])], ("lemma", 1, ("end",)))
        self.wrong([BASE, (NEXT[0], NEXT[1], NEXT[2][:1])], ("lemma", 1, ("end",)))

    def test_numbers_of_lemmas_ahead(self):
        for number, wanted in [(3, None), (0, ("line", 1)), (4, ("line", 1)), (5, ("line", 1)), (10 ** 29, ("line", 1)),
                               (-1, ("road",)), (True, ("road",))]:
            lines = [NEXT[2][0], (NEXT[2][1][0], (number,) + NEXT[2][1][1][1:])]
            told = None if wanted is None else ("lemma", 1, wanted)
            self.wrong([BASE, NEXT[:2] + (lines,), BACK] if wanted is None else [BASE, NEXT[:2] + (lines,)], told)
        self.wrong([NEXT, BASE], ("lemma", 0, ("line", 1)))
        self.wrong([BASE, BACK, NEXT], ("lemma", 1, ("line", 1)))
        # a lemma isn't ahead of itself
        itself = (X, X, [(X, None), (X, (3, False, (), (("x", X),)))])
        self.wrong([itself], ("lemma", 0, ("line", 1)))
        self.wrong([(X, X, [(X, None)]), (X, X, itself[2])], None)

    def test_put_has_each_variable_of_both_sides(self):
        wide = (term("m(e, m(u, v))"), term("m(u, v)"), [
            (term("m(e, m(u, v))"), None), (term("m(u, v)"), (0, False, (), (("x", term("m(u, v)")),)))])
        good = (("u", E), ("v", X))
        ends = [(term("m(e, m(e, x))"), None), (term("m(e, x)"), (3, False, (), good))]
        self.wrong([wide, (ends[0][0], ends[1][0], ends)], None)
        for pairs in [(), good[:1], good[::-1], good + (("w", X),), (("u", X), ("v", E)), (("u", E), ("x", X))]:
            lines = [ends[0], (ends[1][0], (3, False, (), pairs))]
            self.wrong([wide, (ends[0][0], ends[1][0], lines)], ("lemma", 1, ("line", 1)))

    def test_the_least_lemma(self):
        broken = (X, Y, [(X, None)])
        self.wrong([BASE, broken, broken], ("lemma", 1, ("end",)))
        self.wrong([broken, None], ("lemmas",))
        self.wrong([broken, (X, Y, None)], ("lemma", 0, ("end",)))
        self.wrong([(X, X, None), broken], ("lemma", 0, ("road",)))

    def test_how_many(self):
        one = (X, X, [(X, None)])
        self.wrong([one] * 200, None)
        self.wrong([one] * 201, ("lemmas",))
        self.wrong([back_and_forth(599)], None, FF)
        self.wrong([back_and_forth(600)], ("lemma", 0, ("road",)), FF)

    def test_sides_of_many_parts_and_letters(self):
        self.wrong([(tower("f", 60), tower("f", 60), [(tower("f", 60), None)])], None)
        self.wrong([(tower("f", 60), tower("f", 58), [
            (tower("f", 60), None), (tower("f", 58), (0, False, (), (("x", tower("f", 58)),)))])], None, FF)
        six = term("m(m(u, v), m(m(w, x), m(y, z)))")
        lines = [(six, None), (six[:2] + (six[2][::-1],), (1, False, (), (("x", six[2][0]), ("y", six[2][1]))))]
        by = tuple((name, E) for name in "uvwxyz")
        there = put(six, dict(by))
        self.wrong([(six, lines[1][0], lines), (there, there[:2] + (there[2][::-1],), [
            (there, None), (there[:2] + (there[2][::-1],), (3, False, (), by))])], None)

    def test_against_the_words_of_the_document(self):
        chance = fixed_chance(66)
        seen = set()
        for step in range(150):
            lemmas = some_lemmas(chance, ONE, chance.randrange(1, 5), 4)
            self.assertIsNone(wrong_by_words(ONE, lemmas))
            self.assertIsNone(lemmas_wrong(ONE, lemmas))
            k = chance.randrange(len(lemmas))
            left, right, lines = lemmas[k]
            way = chance.randrange(4)
            if way == 0:
                del lemmas[k]
            elif way == 1:
                lemmas[k] = (right, left, lines)
            elif way == 2:
                lemmas[k] = (left, right, lines[:-1])
            else:
                lemmas.insert(0, lemmas.pop(k))
            wanted = wrong_by_words(ONE, lemmas)
            self.assertEqual(lemmas_wrong(ONE, lemmas), wanted)
            seen.add(wanted and wanted[2][0])
        self.assertEqual(seen, {None, "road", "begin", "line", "end"})


class SpeltTest(Checks, unittest.TestCase):
    def told(self, one, lemmas, place):
        """The spelt road, let by by road_wrong, of the lemma's sides."""
        road = spelt(kind=one, lemmas=lemmas, number=place)
        self.assertIsNone(road_wrong(one, road))
        self.assertEqual((road[0][0], road[-1][0]), lemmas[place][:2])
        return road

    def test_ordinary_ones(self):
        self.assertEqual(self.told(ONE, LEMMAS, 0), BASE[2])
        self.assertEqual(len(self.told(ONE, LEMMAS, 1)), 3)
        self.assertEqual(len(self.told(ONE, LEMMAS, 2)), 5)
        self.assertEqual(self.told(ONE, [(X, X, [(X, None)])], 0), [(X, None)])

    def test_no_number(self):
        for place in [-1, 3, 10 ** 29, True, False, None, "0", (0,), [0], nested(300)]:
            self.refuses(NoNumber, spelt, ONE, LEMMAS, place)
        self.refuses(NoNumber, spelt, ONE, [], 0)
        twice = (X, X, [(X, None), (X, (1, False, (), (("x", X),))), (X, (1, False, (), (("x", X),)))])
        self.refuses(TooMany, spelt, FF, [(X, X, back_and_forth(598)[2]), twice], 1)
        self.refuses(NoNumber, spelt, FF, [(X, X, back_and_forth(598)[2]), twice], 2)

    def test_against_the_words_of_the_document(self):
        """By lesser bounds, so that lemmas by chance come to both refusals."""
        chance = fixed_chance(67)
        told = []
        with mock.patch("deedworlds.spelling.MOST_PARTS", 9), mock.patch("deedworlds.spelling.MOST_LINES", 9):
            for step in range(150):
                lemmas = some_lemmas(chance, ONE, chance.randrange(1, 7), 4)
                for place in range(len(lemmas)):
                    told.append(self.as_told(lemmas, place))
        for word in ("road", "big", "many"):
            self.assertGreater(told.count(word), 20)

    def as_told(self, lemmas, place):
        """What spelt comes to, as the road that comes by putting tells it."""
        road = spelt_by_words(ONE, lemmas, place)
        if len(road) > 9:
            self.refuses(TooMany, spelt, ONE, lemmas, place)
            return "many"
        if max(count_parts(one) for one, reason in road) > 9:
            self.refuses(TooBig, spelt, ONE, lemmas, place)
            return "big"
        self.assertEqual(self.told(ONE, lemmas, place), road)
        return "road"

    def test_just_so_many_lines(self):
        for more, refused in [(1, False), (2, True)]:
            first = back_and_forth(299)
            there = first[1]
            lines = [(X, None), (there, (1, False, (), (("x", X),))), (X, (1, True, (), (("x", X),)))]
            lines += back_and_forth(more)[2][1:]
            lemmas = [first, (X, lines[-1][0], lines)]
            self.assertIsNone(lemmas_wrong(FF, lemmas))
            if refused:
                self.refuses(TooMany, spelt, FF, lemmas, 1)
            else:
                self.assertEqual(len(self.told(FF, lemmas, 1)), 600)

    def test_twice_as_many_each_time(self):
        lemmas = [(X, X, back_and_forth(2)[2])]
        for k in range(199):
            by = (1 + k, False, (), (("x", X),)) if k % 2 else (1 + k, True, (), (("x", X),))
            lemmas.append((X, X, [(X, None), (X, by), (X, by)]))
        self.assertIsNone(lemmas_wrong(FF, lemmas))
        for place in range(9):
            if 2 ** (place + 1) < 600:
                self.assertEqual(len(self.told(FF, lemmas, place)), 2 ** (place + 1) + 1)
        self.refuses(TooMany, spelt, FF, lemmas, 9)
        self.refuses(TooMany, spelt, FF, lemmas, 199)

    def test_long_rows_of_lemmas(self):
        """Each goes by the one ahead alone; the last one 599 times by the last of these."""
        lemmas = [(term("f(f(x))"), X, [(term("f(f(x))"), None), (X, (0, False, (), (("x", X),)))])]
        for k in range(198):
            lemmas.append((term("f(f(x))"), X, [(term("f(f(x))"), None), (X, (1 + k, False, (), (("x", X),)))]))
        lines = [(one, reason and (199,) + reason[1:]) for one, reason in back_and_forth(599)[2]]
        lemmas.append((X, lines[-1][0], lines))
        self.assertEqual(len(lemmas), 200)
        self.assertEqual(len(self.told(FF, lemmas, 199)), 600)
        self.assertEqual(len(self.told(FF, lemmas, 198)), 2)
        long = [back_and_forth(599)]
        for k in range(199):
            long.append((X, long[0][1], [(X, None), (long[0][1], (1 + k, False, (), (("x", X),)))]))
        self.assertEqual(self.told(FF, long, 199), long[0][2])

    def test_lemmas_that_go_nowhere(self):
        """A lemma of one line stands for no step at all, however often one goes by it."""
        lemmas = [(X, X, [(X, None)])]
        for k in range(30):
            lemmas.append((X, X, [(X, None)] + [(X, (1 + k, True, (), (("x", X),)))] * 599))
        self.assertIsNone(lemmas_wrong(FF, lemmas))
        self.assertEqual(self.told(FF, lemmas, 30), [(X, None)])
        big = tower("f", 40)
        lemmas.append((big, big, [(big, None), (big, (30, False, (0,), (("x", tower("f", 39)),)))]))
        self.assertEqual(self.told(FF, lemmas, 31), [(big, None)])

    def test_just_too_big(self):
        """By a lemma one goes from x to x over f(f(x)): put for x a term of 58 parts, or of 59."""
        lemmas = [(X, X, back_and_forth(2)[2])]
        for parts in (58, 59):
            one = tower("f", parts)
            lemmas.append((one, one, [(one, None), (one, (1, False, (), (("x", one),)))]))
            lemmas.append((one, one, [(one, None), (one, (1, False, (0,), (("x", one[2][0]),)))]))
        self.assertIsNone(lemmas_wrong(FF, lemmas))
        self.assertEqual(max(count_parts(one) for one, reason in self.told(FF, lemmas, 1)), 60)
        self.assertEqual(max(count_parts(one) for one, reason in self.told(FF, lemmas, 2)), 60)
        self.refuses(TooBig, spelt, FF, lemmas, 3)
        self.refuses(TooBig, spelt, FF, lemmas, 4)

    def test_a_term_put_of_just_so_many_parts(self):
        still = kind("m/2 f/1 e/0", "x = x")
        one = tower("f", 60)
        lemmas = [(X, X, [(X, None), (X, (0, False, (), (("x", X),)))]),
                  (one, one, [(one, None), (one, (1, False, (), (("x", one),)))])]
        self.assertEqual(self.told(still, lemmas, 1), [(one, None), (one, (0, False, (), (("x", one),)))])

    def test_too_big_behind_too_many(self):
        one = tower("f", 59)
        twice = [(one, None)] + [(one, (1, False, (), (("x", one),)))] * 299
        thrice = [(one, None)] + [(one, (1, False, (), (("x", one),)))] * 300
        lemmas = [(X, X, back_and_forth(2)[2]), (one, one, twice), (one, one, thrice)]
        self.refuses(TooBig, spelt, FF, lemmas, 1)
        self.refuses(TooMany, spelt, FF, lemmas, 2)

    def test_variables_that_the_sides_lack(self):
        """The middle of a lemma has a variable that its sides lack: it stays, till a put names it."""
        one = kind("m/2 f/1 e/0", "e = f(z)")
        middle = (E, E, [(E, None), (term("f(z)"), (0, False, (), (("z", Z),))), (E, (0, True, (), (("z", Z),)))])
        around = (term("m(e, z)"), term("m(e, z)"), [
            (term("m(e, z)"), None), (term("m(e, z)"), (1, False, (0,), ()))])
        lemmas = [middle, around]
        for parts in (29, 30):
            big = tower("f", parts, E)
            lemmas.append((deed("m", E, big), deed("m", E, big), [
                (deed("m", E, big), None), (deed("m", E, big), (2, False, (), (("z", big),)))]))
        self.assertIsNone(lemmas_wrong(one, lemmas))
        self.assertEqual([there for there, reason in self.told(one, lemmas, 1)],
                         [term("m(e, z)"), term("m(f(z), z)"), term("m(e, z)")])
        road = self.told(one, lemmas, 2)
        self.assertEqual([count_parts(there) for there, reason in road], [31, 60, 31])
        self.refuses(TooBig, spelt, one, lemmas, 3)

    def test_lemmas_that_are_not_gone_by_may_be_too_big(self):
        one = tower("f", 59)
        lemmas = [(X, X, back_and_forth(2)[2]), (one, one, [(one, None), (one, (1, False, (), (("x", one),)))]),
                  (X, X, [(X, None), (X, (1, False, (), (("x", X),)))])]
        self.refuses(TooBig, spelt, FF, lemmas, 1)
        self.assertEqual(len(self.told(FF, lemmas, 2)), 3)

    def test_told_lists_are_own(self):
        self.own(spelt, ONE, LEMMAS, 0)
        self.own(spelt, ONE, LEMMAS, 2)
        self.own(spelt, ONE, [(X, X, [(X, None)])], 0)
        self.own(lemmas_wrong, ONE, LEMMAS)
        self.own(pairs_of, ONE, WEIGHING, LEMMAS, [1, 0])
        self.own(rules_wrong, ONE, WEIGHING, LEMMAS, [1, 0])

    def test_what_is_told_may_be_changed(self):
        lemmas = [(X, X, [(X, None)])]
        spelt(FF, lemmas, 0).append("spoilt")
        self.assertEqual(lemmas, [(X, X, [(X, None)])])


class RulesTest(Checks, unittest.TestCase):
    wide = [(term("m(e, m(m(u, v), m(w, x)))"), term("m(m(u, v), m(w, x))"), [
        (term("m(e, m(m(u, v), m(w, x)))"), None),
        (term("m(m(u, v), m(w, x))"), (0, False, (), (("x", term("m(m(u, v), m(w, x))")),)))])]
    three = [(term("m(e, m(u, m(v, w)))"), term("m(u, m(v, w))"), [
        (term("m(e, m(u, m(v, w)))"), None), (term("m(u, m(v, w))"), (0, False, (), (("x", term("m(u, m(v, w))")),)))])]
    same = [(X, X, [(X, None)])]
    lemmas = LEMMAS + wide + three + same

    def wrong(self, thing, wanted, weighing=WEIGHING):
        told = rules_wrong(kind=ONE, weighing=weighing, lemmas=self.lemmas, thing=thing)
        self.assertEqual(told, wanted, thing)
        if wanted is None:
            self.assertEqual(pairs_of(kind=ONE, weighing=weighing, lemmas=self.lemmas, rules=thing),
                             [self.lemmas[place][:2] for place in thing])
        else:
            self.refuses(NoRules, pairs_of, ONE, weighing, self.lemmas, thing)

    def test_right_ones(self):
        self.assertIsNone(lemmas_wrong(ONE, self.lemmas))
        for thing in [[], [0], [1], [0, 1], [1, 0], [4, 1, 0]]:
            self.wrong(thing, None)

    def test_no_places(self):
        for thing in [None, True, 0, "0", (), (0,), [6], [-1], [True], [False], [0, 0], [1, 0, 1], ["0"], [None], [[0]],
                      [0, 10 ** 29], [2, 7], nested(300), [nested(299)]]:
            self.wrong(thing, ("rules",))

    def test_the_least_rule_that_is_none(self):
        self.wrong([2], ("rule", 0))
        self.wrong([0, 2], ("rule", 1))
        self.wrong([0, 1, 5, 2], ("rule", 2))
        self.wrong([3], ("rule", 0))
        self.wrong([4, 3], ("rule", 1))
        self.wrong([5], ("rule", 0))
        self.assertEqual(compared(SIGNATURE, WEIGHING, *self.wide[0][:2]), "heavier")
        self.assertEqual((len(letters_in(self.wide[0][0])), len(letters_in(self.three[0][0]))), (4, 3))

    def test_the_weighing_decides(self):
        lines = [(term("f(f(x))"), None), (term("m(x, x)"), (2, False, (), (("x", X), ("z", X))))]
        lemmas = [(lines[0][0], lines[1][0], lines)]
        self.assertEqual(rules_wrong(ONE, ((1, 1, 1), (2, 1, 0)), lemmas, [0]), ("rule", 0))
        turned = [(lines[1][0], lines[0][0], [(lines[1][0], None), (lines[0][0], (2, True, (), (("x", X), ("z", X))))])]
        self.assertIsNone(lemmas_wrong(ONE, turned))
        for weighing in [((1, 1, 1), (2, 1, 0)), ((1, 1, 1), (1, 2, 0)), ((2, 2, 1), (0, 1, 2))]:
            wanted = None if compared(SIGNATURE, weighing, *turned[0][:2]) == "heavier" else ("rule", 0)
            self.assertEqual(rules_wrong(ONE, weighing, turned, [0]), wanted)
        self.assertIsNone(rules_wrong(ONE, ((2, 1, 1), (1, 0, 2)), turned, [0]))
        self.assertEqual(rules_wrong(ONE, ((1, 1, 1), (0, 1, 2)), turned, [0]), ("rule", 0))

    def test_refusals_in_order(self):
        for function in (rules_wrong, pairs_of):
            self.refuses(NoKind, function, None, None, None, None)
            for weighing in [None, (), WEIGHING[:1], ((1, 1, 0), (0, 1, 2)), nested(300)]:
                self.refuses(NoWeighing, function, ONE, weighing, LEMMAS, None)
                self.refuses(NoWeighing, function, ONE, weighing, None, None)
            self.refuses(NoLemmas, function, ONE, WEIGHING, [BASE, None], None)
        self.refuses(NoRules, pairs_of, ONE, WEIGHING, LEMMAS, None)

    def test_pairs_in_the_order_of_the_rules(self):
        self.assertEqual(pairs_of(ONE, WEIGHING, LEMMAS, [1, 0]), [NEXT[:2], BASE[:2]])
        self.assertEqual(pairs_of(ONE, WEIGHING, LEMMAS, []), [])


if __name__ == "__main__":
    unittest.main()
