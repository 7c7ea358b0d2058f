"""Points 30a and 30b: roads with the fewest steps, and shut lists."""

import unittest

from deedworlds.errors import NoEquation, NoKind, NoNumber, TooMany
from deedworlds.following import MOST_COME, road_for, shut_judged, shut_list
from deedworlds.roads import road_judged
from tests.helpers import Checks, count_parts, fixed_chance, kind, nested, some_term, term, tower, var
from tests.walks import all_steps, asked_choices, come_to

GROUP = kind("m/2 i/1 e/0", "m(e, x) = x", "m(i(x), x) = e", "m(m(x, y), z) = m(x, m(y, z))")
SEMI = kind("m/2 f/1 e/0", "m(m(x, y), z) = m(x, m(y, z))")
COMM = kind("m/2 f/1 e/0", "m(x, y) = m(y, x)")
FREE = kind("m/2 f/1 e/0", "f(x) = m(x, y)", "e = f(z)")
IDEM = kind("m/2 f/1 e/0", "f(f(x)) = f(x)", "f(x) = f(f(x))", "x = x")
NO_PARTS = [0, 61, -1, True, False, None, "9", (9,), [9], 10 ** 29, nested(300)]
X, Y, E = var("x"), var("y"), term("e")


def asked(text):
    left, right = text.split(" = ")
    return (term(left), term(right))


class Against(Checks):
    def same_as_words(self, one, equation, parts):
        """Whether road_for, shut_list and shut_judged tell what the search of the test comes to."""
        wanted = come_to(one, equation, parts)
        if wanted == ("many",):
            self.refuses(TooMany, road_for, one, equation, parts=parts)
            self.refuses(TooMany, shut_list, one, equation, parts=parts)
            return wanted[0]
        road = road_for(one, equation, parts=parts)
        shut = shut_list(one, equation, parts=parts)
        if wanted[0] == "road":
            self.assertIsNone(shut)
            self.assertEqual(len(road), wanted[1] + 1)
            self.assertIsNone(road_judged(one, equation, road))
            choices = asked_choices(equation)
            for ahead, line in zip(road, road[1:]):
                self.assertIn(line, list(all_steps(one[1], ahead[0], choices, parts)))
        else:
            self.assertIsNone(road)
            self.assertEqual((len(shut), set(shut)), (len(wanted[1]), wanted[1]))
            self.assertIsNone(shut_judged(one, equation, shut, parts=parts))
        return wanted[0]


class RoadForTest(Against, unittest.TestCase):
    def test_ordinary_ones(self):
        self.assertEqual(MOST_COME, 500)
        equation = asked("m(m(m(x, y), z), w) = m(x, m(y, m(z, w)))")
        self.assertEqual(len(road_for(kind=SEMI, equation=equation)), 3)
        self.assertEqual(road_for(COMM, asked("m(x, e) = m(e, x)"), parts=3), [
            (term("m(x, e)"), None), (term("m(e, x)"), (0, False, (), (("x", X), ("y", E))))])
        self.assertIsNone(road_for(COMM, asked("m(x, y) = m(x, x)")))

    def test_both_sides_the_same(self):
        for one in (term("m(x, e)"), tower("f", 12)):
            for parts in (1, 9, 60):
                self.assertEqual(road_for(SEMI, (one, one), parts=parts), [(one, None)])
                self.assertIsNone(shut_list(SEMI, (one, one), parts=parts))
        self.assertEqual(road_for((SEMI[0], ()), (X, X), parts=1), [(X, None)])

    def test_against_a_search_step_by_step(self):
        for one, text, parts, wanted in [
                (GROUP, "m(e, x) = x", 9, "road"), (GROUP, "m(x, e) = x", 5, "shut"),
                (SEMI, "m(m(m(x, y), m(z, w)), x) = m(x, m(y, m(z, m(w, x))))", 9, "road"),
                (SEMI, "m(m(m(x, y), m(z, w)), x) = m(x, m(y, m(z, m(w, y))))", 9, "shut"),
                (COMM, "m(m(x, y), m(z, w)) = m(m(w, z), m(y, x))", 7, "road"),
                (COMM, "m(m(x, y), m(z, w)) = m(m(w, z), m(y, x))", 6, "shut"),
                (FREE, "f(x) = m(x, z)", 3, "road"), (FREE, "f(x) = m(x, e)", 5, "shut"),
                (FREE, "e = m(e, e)", 4, "shut"), (GROUP, "m(x, e) = x", 13, "many"),
                (IDEM, "f(f(f(f(x)))) = f(x)", 5, "road"), (IDEM, "f(f(x)) = x", 60, "shut"),
                (IDEM, "f(x) = f(f(f(f(f(f(f(f(f(f(f(x)))))))))))", 60, "road")]:
            equation = tuple(term(side, one[0]) for side in text.split(" = "))
            self.assertEqual(self.same_as_words(one, equation, parts), wanted, text)

    def test_against_a_search_by_chance(self):
        chance = fixed_chance(31)
        signature = (("m", 2), ("f", 1), ("e", 0))
        told = []
        for step in range(240):
            equations = tuple((some_term(chance, signature, 4, "xyz"), some_term(chance, signature, 4, "xyz"))
                              for k in range(chance.randrange(1, 4)))
            if step % 3 == 0:
                equations += ((X, term("m(x, f(x))")), (term("m(x, y)"), term("m(y, x)")))
            equation = (some_term(chance, signature, 5, "xy"), some_term(chance, signature, 5, "xy"))
            told.append(self.same_as_words((signature, equations), equation, chance.choice([2, 3, 4, 5, 13])))
        for word in ("road", "shut", "many"):
            self.assertGreater(told.count(word), 5, word)

    def test_variables_that_a_side_has_not(self):
        road = road_for(FREE, asked("f(x) = m(x, z)"))
        self.assertEqual(road[1][1], (0, False, (), (("x", X), ("y", var("z")))))
        self.assertIsNone(road_for(FREE, asked("f(x) = m(x, e)"), parts=3))
        both = kind("m/2 f/1 e/0", "e = m(y, z)")
        self.assertEqual(road_for(both, asked("e = m(u, v)"))[1][1], (0, False, (), (("y", var("u")), ("z", var("v")))))
        self.assertEqual(len(road_for(both, asked("m(x, y) = m(y, y)"), parts=3)), 3)

    def test_an_equation_without_variables(self):
        one = kind("m/2 f/1 e/0", "e = f(y)")
        self.assertIsNone(road_for(one, asked("e = m(e, e)"), parts=3))
        self.assertEqual(set(shut_list(one, asked("e = m(e, e)"), parts=2)), {E, term("f(x)")})
        two = kind("m/2 f/1 e/0", "e = m(y, y)", "m(u, v) = f(e)")
        self.assertEqual(road_for(two, asked("e = f(e)"))[1], (term("m(x, x)"), (0, False, (), (("y", X),))))

    def test_sides_with_more_parts_than_told(self):
        left = term("m(m(x, y), z)")
        for equation in [(left, X), (left, term("m(x, m(y, z))")), (X, left)]:
            self.assertIsNone(road_for(SEMI, equation, parts=4))
        self.assertEqual(shut_list(SEMI, (left, term("m(x, m(y, z))")), parts=4), [left])
        self.assertEqual(len(road_for(SEMI, (left, term("m(x, m(y, z))")), parts=5)), 2)
        ways = kind("m/2 f/1 e/0", "x = f(f(f(x)))", "f(f(f(x))) = f(x)")
        self.assertEqual(len(road_for(ways, asked("x = f(x)"), parts=4)), 3)
        self.assertIsNone(road_for(ways, asked("x = f(x)"), parts=3))

    def test_many_in_the_same_step(self):
        """More than so many are come to in as many steps as the right side is: it is told all the same."""
        wide = kind("m/2 f/1 e/0", "e = m(m(x, y), z)", "e = m(m(x, y), m(z, w))")
        near = (term("m(e, e)"), term("m(m(m(u, v), m(w, x)), e)"))
        fresh = {told for told, reason in all_steps(wide[1], near[0], asked_choices(near), 60)}
        self.assertEqual(len(fresh), 2 * (64 + 256))
        self.assertEqual(self.same_as_words(wide, near, 60), "road")
        self.assertEqual(self.same_as_words(wide, near, 9), "road")
        self.assertEqual(self.same_as_words(wide, near[:1] + (term("m(m(m(u, v), w), m(m(u, x), u))"),), 60), "many")

    def test_just_so_many_come_to(self):
        """500 terms, the left side counted, are let by; one more isn't."""
        rounds = kind("m/2 f/1 e/0", "f(x) = f(y)")
        equation = asked("m(f(u), m(f(e), m(f(e), f(e)))) = m(v, m(w, x))")
        self.assertEqual(len(shut_list(rounds, equation, parts=11)), 500)
        self.assertEqual(self.same_as_words(rounds, equation, 11), "shut")
        one_more = (rounds[0], rounds[1] + (asked("m(f(x), m(f(e), m(f(e), f(e)))) = e"),))
        self.assertEqual(len(come_to(one_more, equation, 11, most=600)[1]), 501)
        self.assertEqual(self.same_as_words(one_more, equation, 11), "many")
        self.assertEqual(len(road_for(one_more, equation[:1] + (E,), parts=11)), 2)
        rows = kind("f/1 m/2 e/0", "x = f(x)")
        equation = (term("m(x, y)"), E)
        self.assertEqual(len(shut_list(rows, equation, parts=15)), 15 * 14 * 13 // 6)
        self.refuses(TooMany, shut_list, rows, equation, parts=16)
        self.refuses(TooMany, road_for, rows, equation, parts=16)

    def test_parts(self):
        for function in (road_for, shut_list):
            for parts in NO_PARTS:
                self.refuses(NoNumber, function, COMM, asked("x = y"), parts=parts)
        for parts in (1, 60):
            self.assertIsNone(road_for(COMM, asked("x = y"), parts=parts))
            self.assertEqual(shut_list(COMM, asked("x = y"), parts=parts), [X])
        self.assertIsNone(road_for(SEMI, asked("m(m(x, y), m(z, m(x, y))) = m(m(m(x, y), z), m(x, x))")))

    def test_nine_parts_where_none_are_told(self):
        grows = kind("m/2 f/1 e/0", "f(x) = f(f(x))")
        self.assertEqual(len(shut_list(grows, asked("f(x) = x"))), 8)
        self.assertIsNone(shut_judged(grows, asked("f(x) = x"), [tower("f", k) for k in range(2, 10)]))
        self.assertEqual(shut_judged(grows, asked("f(x) = x"), [tower("f", k) for k in range(2, 9)]), ("shut", 6))

    def test_refusals_in_order(self):
        for function in (road_for, shut_list):
            self.refuses(NoKind, function, None, None, parts=0)
            for equation in [None, (X,), (X, ("var", "a")), [X, X], (tower("f", 13), X)]:
                self.refuses(NoEquation, function, COMM, equation, parts=0)
        self.refuses(NoKind, shut_judged, None, None, None, parts=0)
        self.refuses(NoEquation, shut_judged, COMM, (X, None), None, parts=0)
        for parts in NO_PARTS:
            self.refuses(NoNumber, shut_judged, COMM, (X, X), None, parts=parts)

    def test_told_soon(self):
        wide = kind("m/2 f/1 e/0", *["e = m(m(x, y), m(z, w))"] * 4 + ["x = m(m(x, y), m(z, w))"] * 4)
        equation = asked("m(m(e, e), m(m(e, e), m(x, y))) = m(z, w)")
        self.refuses(TooMany, road_for, wide, equation, parts=60)
        deep = kind("m/2 f/1 e/0", *["x = x"] * 4 + ["f(x) = f(f(x))"] * 4)
        self.assertEqual(len(shut_list(deep, asked("f(x) = x"), parts=60)), 59)

    def test_told_lists_are_own(self):
        self.own(road_for, SEMI, asked("m(m(x, y), z) = m(x, m(y, z))"), parts=9)
        self.own(road_for, SEMI, asked("x = x"))
        self.own(shut_list, SEMI, asked("m(m(x, y), z) = x"))


class ShutJudgedTest(Checks, unittest.TestCase):
    def test_no_list_of_terms(self):
        for thing in [None, True, 0, "x", (), (X,), {"x": X}, [None], [X, None], [X, ("var", "a")], [X, X],
                      [X, tower("f", 61)], [X, Y, term("m(x, y)"), Y], [[X]], nested(300), [nested(299)]]:
            self.assertEqual(shut_judged(kind=COMM, equation=(X, Y), thing=thing, parts=9), ("list",), thing)

    def test_begin_and_end(self):
        both = asked("m(x, y) = m(y, y)")
        whole = [term("m(x, y)"), term("m(y, x)")]
        self.assertIsNone(shut_judged(COMM, both, whole))
        self.assertIsNone(shut_judged(COMM, both, whole[::-1], parts=3))
        self.assertEqual(shut_judged(COMM, both, []), ("begin",))
        self.assertEqual(shut_judged(COMM, both, [X]), ("begin",))
        self.assertEqual(shut_judged(COMM, both, [term("m(y, y)")]), ("begin",))
        self.assertEqual(shut_judged(COMM, both, [term("m(x, y)"), term("m(y, y)")]), ("end",))
        self.assertEqual(shut_judged(COMM, (X, X), [X]), ("end",))
        self.assertEqual(shut_judged(COMM, both, whole + [term("m(y, y)")]), ("end",))

    def test_a_left_side_with_more_parts_than_told(self):
        both = asked("m(x, y) = m(y, y)")
        self.assertIsNone(shut_judged(COMM, both, [], parts=2))
        self.assertIsNone(shut_judged(COMM, both, [term("m(x, y)")], parts=2))
        self.assertIsNone(shut_judged(COMM, both, [X, Y], parts=2))
        self.assertEqual(shut_judged(COMM, both, [term("m(y, y)")], parts=2), ("end",))
        self.assertEqual(shut_judged(COMM, both, [term("m(x, y)")], parts=3), ("shut", 0))
        self.assertEqual(shut_list(COMM, both, parts=2), [term("m(x, y)")])

    def test_shut(self):
        equation = asked("m(x, y) = m(y, y)")
        some = [term("m(x, y)"), term("m(y, x)"), E, term("m(x, e)"), term("m(e, f(x))")]
        self.assertEqual(shut_judged(COMM, equation, some), ("shut", 3))
        self.assertEqual(shut_judged(COMM, equation, some + [term("m(e, x)")]), ("shut", 4))
        self.assertEqual(shut_judged(COMM, equation, some[2:] + some[:2]), ("shut", 1))
        self.assertIsNone(shut_judged(COMM, equation, some, parts=2))
        self.assertEqual(shut_judged(COMM, equation, some[:1]), ("shut", 0))
        self.assertIsNone(shut_judged(COMM, equation, some[:2] + [term("m(x, x)")]))

    def test_other_letters_and_kinds(self):
        """Which variables are put for those that a side lacks hangs on the equation asked."""
        one = kind("m/2 f/1 e/0", "e = f(y)")
        some = [E, term("f(x)"), term("f(e)"), term("f(f(x))"), term("f(f(e))")]
        self.assertIsNone(shut_judged(one, asked("e = m(e, e)"), some, parts=3))
        self.assertIsNone(shut_judged(one, asked("e = m(x, e)"), some, parts=3))
        self.assertEqual(shut_judged(one, asked("e = m(y, e)"), some, parts=3), ("shut", 0))
        self.assertEqual(shut_judged(one, asked("e = m(x, y)"), some, parts=3), ("shut", 0))
        self.assertEqual(shut_judged(one, asked("e = m(e, e)"), some, parts=4), ("shut", 4))
        self.assertIsNone(shut_judged((one[0], ()), asked("e = m(e, e)"), [E], parts=4))

    def test_against_the_words_of_the_document(self):
        chance = fixed_chance(32)
        signature = (("m", 2), ("f", 1), ("e", 0))
        seen = set()
        for step in range(300):
            equations = tuple((some_term(chance, signature, 3, "xy"), some_term(chance, signature, 3, "xy"))
                              for k in range(chance.randrange(1, 3)))
            equation = (some_term(chance, signature, 3, "xy"), some_term(chance, signature, 3, "xy"))
            parts = chance.randrange(1, 5)
            came = come_to((signature, equations), equation, parts, most=60)
            terms = sorted(came[1]) if came[0] == "shut" else [equation[0]]
            chance.shuffle(terms)
            terms = terms[chance.choice([0, 0, 1]):]
            terms += [extra for extra in [some_term(chance, signature, 4, "xy")] if extra not in terms]
            wanted = self.judged_by_words((signature, equations), equation, terms, parts)
            self.assertEqual(shut_judged((signature, equations), equation, terms, parts=parts), wanted)
            seen.add(wanted and wanted[0])
        self.assertEqual(seen, {None, "begin", "end", "shut"})

    def judged_by_words(self, one, equation, terms, parts):
        if equation[0] not in terms and count_parts(equation[0]) <= parts:
            return ("begin",)
        if equation[1] in terms:
            return ("end",)
        for i, here in enumerate(terms):
            for told, reason in all_steps(one[1], here, asked_choices(equation), parts):
                if told not in terms:
                    return ("shut", i)
        return None

    def test_long_lists(self):
        """All words of two letters up to a length: more terms than road_for goes through."""
        words = kind("f/1 g/1 h/1", "f(x) = g(x)", "f(g(x)) = g(f(x))")
        level = [X]
        terms = [X]
        for step in range(10):
            level = [("deed", name, (one,)) for name in "fg" for one in level]
            terms += level
        self.assertIsNone(shut_judged(words, (tower("f", 11), ("deed", "h", (X,))), terms, parts=60))
        broken = terms[:1500] + terms[1501:]
        self.assertEqual(shut_judged(words, (X, ("deed", "h", (X,))), broken, parts=60)[0], "shut")


if __name__ == "__main__":
    unittest.main()
