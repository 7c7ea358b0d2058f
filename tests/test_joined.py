"""Deeds called by other names, and kinds joined: points 68a to 68f."""

import itertools
import unittest

from deedworlds.answers import answer_judged, answered
from deedworlds.counting import all_told
from deedworlds.errors import (
    NoAnswer, NoEquation, NoFit, NoKind, NoModel, NoNumber, NoRenaming, NoRoad, NoSignature, NoTerm, TooMany,
)
from deedworlds.joined import (
    called, called_equation, called_kind, called_road, called_term, joined_kind, joined_signature, moved_answer,
    moved_road, places_in_join, renaming_wrong, widened,
)
from deedworlds.models import keeps
from deedworlds.roads import road_judged, road_wrong
from deedworlds.texts import least_equation
from tests.helpers import (
    MFE, Checks, deed, equation, every_tables, fixed_chance, kept, kind, nested, some_model, some_term, term, tower, var,
)
from tests.walks import some_road

SEMI = kind("m/2", "m(m(x, y), z) = m(x, m(y, z))")
UNIT = kind("e/0 m/2", "m(e, x) = x", "m(x, m(y, z)) = m(m(x, y), z)", "m(x, e) = x")
TURNS = kind("f/1 m/2", "f(f(x)) = x", "m(f(x), f(y)) = f(m(y, x))")
NAMES = ("n", "g", "a")


def by_names(one, names):
    if one[0] == "var":
        return one
    return ("deed", names[one[1]], tuple(by_names(part, names) for part in one[2]))


class CalledTest(Checks, unittest.TestCase):
    def test_wrong(self):
        self.assertIsNone(renaming_wrong(MFE, NAMES))
        self.assertIsNone(renaming_wrong(MFE, ("m", "f", "e")))
        self.assertIsNone(renaming_wrong(MFE, ("e", "m", "f")))
        for thing in (None, (), NAMES[:2], NAMES + ("b",), list(NAMES), "nga", nested(300), True):
            self.assertEqual(renaming_wrong(MFE, thing), ("renaming",))
        for k in range(3):
            for odd in (None, "", "u", "abcde", "A", 1, ("a",), [], nested(200)):
                self.assertEqual(renaming_wrong(MFE, NAMES[:k] + (odd,) + (None,) * (2 - k)), ("name", k))
        self.assertEqual(renaming_wrong(MFE, ("a", "a", "a")), ("twice", 1))
        self.assertEqual(renaming_wrong(MFE, ("a", "b", "a")), ("twice", 2))
        self.refuses(NoSignature, renaming_wrong, 1, 2)

    def test_called(self):
        self.assertEqual(called(MFE, NAMES), (("n", 2), ("g", 1), ("a", 0)))
        self.assertEqual(called_term(MFE, NAMES, term("m(f(u), e)")), deed("n", deed("g", var("u")), deed("a")))
        self.assertEqual(called_equation(MFE, ("e", "m", "f"), equation("m(f(u), e) = u")),
                         (deed("e", deed("m", var("u")), deed("f")), var("u")))
        chance = fixed_chance(81)
        names = dict(zip("fm", ("m", "f")))
        called_turns = called_kind(TURNS, ("m", "f"))
        self.assertEqual(called_turns, ((("m", 1), ("f", 2)), tuple(
            tuple(by_names(side, names) for side in sides) for sides in TURNS[1])))
        for k in range(40):
            road = some_road(chance, TURNS, some_term(chance, TURNS[0], 9, "xz"), 4)
            told = called_road(TURNS, ("m", "f"), road)
            self.assertIsNone(road_wrong(called_turns, told))
            self.assertEqual([line[0] for line in told], [by_names(line[0], names) for line in road])
            self.assertEqual(called_road(called_turns, ("f", "m"), told), road)
            model = some_model(chance, TURNS[0], 2)
            self.assertEqual(keeps(TURNS, model), keeps(called_turns, model))
        self.own(called_road, TURNS, ("m", "f"), road)

    def test_refused(self):
        for function, more in ((called, ()), (called_term, (1,)), (called_equation, (1,))):
            self.refuses(NoSignature, function, 1, 2, *more)
            for thing in (None, NAMES[:2], ("a", "a", "b")):
                self.refuses(NoRenaming, function, MFE, thing, *more)
        for function, more in ((called_kind, ()), (called_road, (1,))):
            self.refuses(NoKind, function, 1, 2, *more)
            self.refuses(NoRenaming, function, TURNS, NAMES, *more)
        for thing in (1, None, ("var", "t"), deed("n"), tower("f", 61), nested(300)):
            self.refuses(NoTerm, called_term, MFE, NAMES, thing)
            self.refuses(NoEquation, called_equation, MFE, NAMES, thing)
            self.refuses(NoEquation, called_equation, MFE, NAMES, (term("e"), thing))
            self.refuses(NoRoad, called_road, TURNS, ("m", "f"), thing)
            self.refuses(NoRoad, called_road, TURNS, ("m", "f"), [(var("x"), None), thing])


class JoinTest(Checks, unittest.TestCase):
    def test_signatures(self):
        self.assertEqual(joined_signature(SEMI[0], UNIT[0]), (("m", 2), ("e", 0)))
        self.assertEqual(joined_signature(UNIT[0], SEMI[0]), UNIT[0])
        self.assertEqual(joined_signature(UNIT[0], TURNS[0]), (("e", 0), ("m", 2), ("f", 1)))
        four = (("a", 0), ("b", 1), ("c", 2), ("d", 0))
        self.assertEqual(joined_signature(four, four[::-1]), four)
        self.assertEqual(joined_signature(four[:2], four[2:]), four)
        self.refuses(TooMany, joined_signature, four, (("a", 0), ("e", 0)))
        self.assertEqual(self.refuses(NoFit, joined_signature, four, (("e", 0), ("c", 1), ("b", 0))).name, "c")
        self.assertEqual(self.refuses(NoFit, joined_signature, four, (("b", 2), ("c", 1))).name, "b")
        self.refuses(NoSignature, joined_signature, 1, four)
        self.refuses(NoSignature, joined_signature, four, ())

    def test_kinds(self):
        both = joined_kind(SEMI, UNIT)
        self.assertEqual(both, (SEMI[0] + (("e", 0),), (SEMI[1][0], UNIT[1][0], UNIT[1][2])))
        self.assertEqual(places_in_join(SEMI, UNIT), ((0,), (1, 0, 2)))
        self.assertEqual(joined_kind(SEMI, SEMI), SEMI)
        self.assertEqual(joined_kind(UNIT, SEMI), UNIT)
        self.assertEqual(places_in_join(UNIT, SEMI), ((0, 1, 2), (1,)))
        again = kind("m/2", "m(x, y) = m(y, x)", "m(u, v) = m(v, u)", "m(x, x) = x")
        other = kind("m/2", "m(z, z) = z", "x = m(x, x)", "m(x, y) = x", "x = m(x, y)")
        self.assertEqual(joined_kind(again, other), (again[0], again[1] + (other[1][2],)))
        self.assertEqual(places_in_join(again, other), ((0, 0, 2), (2, 2, 3, 3)))

    def test_eight_and_nine(self):
        towers = [(tower("f", k), var("x")) for k in range(2, 12)]
        one = ((("f", 1),), tuple(towers[:5]))
        self.assertEqual(len(joined_kind(one, ((("f", 1),), tuple(towers[3:8])))[1]), 8)
        for function in (joined_kind, places_in_join):
            self.refuses(TooMany, function, one, ((("f", 1),), tuple(towers[3:9])))
            self.refuses(TooMany, function, ((("a", 0), ("b", 0)), ()), ((("c", 0), ("d", 0), ("e", 0)), ()))
            self.assertEqual(self.refuses(NoFit, function, SEMI, kind("m/1", "m(x) = x")).name, "m")
            self.refuses(NoKind, function, 1, SEMI)
            self.refuses(NoKind, function, SEMI, (SEMI[0], [SEMI[1]]))

    def test_by_chance(self):
        chance = fixed_chance(82)
        for k in range(60):
            kinds = []
            for signature in ((("m", 2), ("f", 1)), (("f", 1), ("e", 0), ("m", 2))):
                rows = [tuple(some_term(chance, signature, 3, "xy") for side in range(2)) for n in range(4)]
                kinds.append((signature, tuple(rows)))
            one, other = kinds
            try:
                signature, rows = joined_kind(one, other)
            except TooMany:
                continue
            leasts = [least_equation(signature, row) for row in rows]
            self.assertEqual(rows[:4], one[1])
            self.assertEqual(len(set(leasts[4:])), len(leasts[4:]))
            self.assertFalse(set(leasts[4:]) & set(leasts[:4]))
            self.assertEqual(set(leasts), {least_equation(signature, row) for row in one[1] + other[1]})
            for places, the_kind in zip(places_in_join(one, other), kinds):
                for place, row in zip(places, the_kind[1]):
                    self.assertEqual(place, leasts.index(least_equation(signature, row)))
            turned = joined_kind(other, one)
            self.assertEqual({least_equation(signature, row) for row in turned[1]}, set(leasts))

    def test_counted(self):
        one, other = kind("f/1", "f(f(x)) = f(x)"), kind("a/0 g/1", "g(a) = a")
        for size in (1, 2):
            self.assertEqual(all_told(joined_kind(one, other), size), all_told(one, size) * all_told(other, size))


class MovedTest(Checks, unittest.TestCase):
    PAIRS = ((SEMI, UNIT), (UNIT, SEMI), (UNIT, TURNS), (TURNS, SEMI), (UNIT, UNIT),
             (kind("m/2 f/1", "m(x, y) = f(m(y, x))", "m(m(z, y), x) = x"),
              kind("f/1 m/2", "f(m(u, v)) = m(v, u)", "z = m(m(x, y), z)", "f(m(x, m(z, y))) = m(f(y), x)")),
             (kind("m/2", "m(x, y) = m(y, x)", "x = m(x, x)"), kind("m/2", "m(v, v) = v", "m(w, u) = m(u, w)")))

    def test_roads(self):
        chance = fixed_chance(83)
        lines = 0
        for one, other in self.PAIRS:
            both = joined_kind(one, other)
            for which in (0, 1):
                the_kind = (one, other)[which]
                for k in range(25):
                    road = some_road(chance, the_kind, some_term(chance, the_kind[0], 9, "xz"), 5)
                    told = moved_road(one, other, which, road)
                    self.assertIsNone(road_wrong(both, told))
                    self.assertEqual([line[0] for line in told], [line[0] for line in road])
                    places = places_in_join(one, other)[which]
                    self.assertEqual([(line[1][0], line[1][2]) for line in told[1:]],
                                     [(places[line[1][0]], line[1][2]) for line in road[1:]])
                    lines += len(road) - 1
        self.assertGreater(lines, 300)
        self.own(moved_road, one, other, 1, road)

    def test_answers(self):
        chance = fixed_chance(84)
        met = set()
        for one, other in self.PAIRS:
            both = joined_kind(one, other)
            for which in (0, 1):
                the_kind = (one, other)[which]
                for k in range(12):
                    asked = tuple(some_term(chance, the_kind[0], 5, "xy") for side in range(2))
                    answer = answered(the_kind, asked, 2, parts=7)
                    told = moved_answer(one, other, which, asked, answer)
                    met.add((answer[0], told and told[0]))
                    if answer[0] == "road":
                        self.assertIsNone(road_judged(both, asked, told[1]))
                    elif answer[0] == "open":
                        self.assertIsNone(told)
                    else:
                        tables = dict(zip([name for name, places in the_kind[0]], answer[1][1]))
                        fits = len(both[0]) == len(the_kind[0])
                        model = fits and (answer[1][0], tuple(tables[name] for name, places in both[0]))
                        self.assertEqual(told, ("model", model, answer[2]) if fits and kept(both, model) else None)
                    if told is not None:
                        self.assertIsNone(answer_judged(both, asked, told))
        self.assertLessEqual({("road", "road"), ("model", "model"), ("model", None), ("open", None)}, met)
        asked = equation("m(m(x, x), x) = m(x, m(x, x))", SEMI[0])
        self.own(moved_answer, SEMI, UNIT, 0, asked, answered(SEMI, asked, 1))

    def test_refused(self):
        road = [(var("x"), None)]
        asked = (var("x"), var("x"))
        for function, more in ((moved_road, (None,)), (moved_answer, (None, None)), (widened, (None,))):
            self.refuses(NoKind, function, 1, SEMI, 9, *more)
            self.refuses(NoKind, function, SEMI, 1, 9, *more)
            self.refuses(NoFit, function, SEMI, kind("m/0"), 9, *more)
            self.refuses(TooMany, function, kind("a/0 b/0 c/0"), kind("d/0 e/0"), 9, *more)
            for which in (2, -1, True, False, None, "0", [0], nested(300)):
                self.refuses(NoNumber, function, SEMI, UNIT, which, *more)
        for thing in (None, 1, [], (), [(var("x"), 1)], nested(300), [(deed("e"), None)]):
            self.refuses(NoRoad, moved_road, SEMI, UNIT, 0, thing)
        self.assertEqual(moved_road(SEMI, UNIT, 1, [(deed("e"), None)]), [(deed("e"), None)])
        for thing in (None, 1, (var("x"),), (deed("e"), deed("e")), nested(300)):
            self.refuses(NoEquation, moved_answer, SEMI, UNIT, 0, thing, None)
        for thing, wrong in ((None, ("answer",)), (("road", road + road), ("road",)), (("road", [(var("y"), None)]), ("begin",)),
                             (("rules", 1, 2), ("answer",)), (("model", 1, 2), ("model",))):
            self.assertEqual(self.refuses(NoAnswer, moved_answer, SEMI, UNIT, 0, asked, thing).wrong, wrong)


class WidenedTest(Checks, unittest.TestCase):
    def first(self, both, the_kind, model):
        """The first way, all gone through in order."""
        given = dict(zip([name for name, places in the_kind[0]], model[1]))
        others = tuple(row for row in both[0] if row[0] not in given)
        for tables in every_tables(others, model[0]):
            new = dict(zip([name for name, places in others], tables))
            found = (model[0], tuple({**given, **new}[name] for name, places in both[0]))
            if kept(both, found):
                return found
        return None

    def test_all(self):
        nones = 0
        pairs = ((SEMI, UNIT), (UNIT, SEMI), (SEMI, kind("f/1 m/2", "f(f(x)) = x", "m(f(x), x) = x")),
                 (kind("e/0"), UNIT), (kind("f/1", "f(f(x)) = x"), kind("f/1 e/0 a/0", "f(e) = a", "f(a) = a")))
        for one, other in pairs:
            both = joined_kind(one, other)
            for which in (0, 1):
                the_kind = (one, other)[which]
                for size in (1, 2):
                    for tables in list(every_tables(the_kind[0], size))[:40]:
                        model = (size, tables)
                        if kept(the_kind, model):
                            expected = self.first(both, the_kind, model)
                            self.assertEqual(widened(one, other, which, model), expected)
                            nones += expected is None
                        else:
                            self.refuses(NoModel, widened, one, other, which, model)
        self.assertGreater(nones, 3)

    def test_ways(self):
        one = kind("e/0")
        # of size 6: four points more are 1296 ways; a deed of one place at size 4 is 256, at 5 3125
        three = kind("a/0 b/0 c/0")
        self.assertEqual(widened(one, three, 0, (6, ((5,),))), (6, ((5,), (0,), (0,), (0,))))
        unary = kind("f/1")
        self.assertEqual(widened(one, unary, 0, (4, ((3,),))), (4, ((3,), (0, 0, 0, 0))))
        self.refuses(TooMany, widened, one, unary, 0, (5, ((3,),)))
        self.assertEqual(widened(one, kind("f/1 a/0"), 0, (4, ((3,),))), (4, ((3,), (0,) * 4, (0,))))
        self.refuses(TooMany, widened, one, kind("f/1 a/0 b/0"), 0, (4, ((3,),)))
        self.refuses(TooMany, widened, one, kind("m/2", "x = y"), 0, (3, ((0,),)))
        self.assertIsNone(widened(one, kind("m/2", "x = y"), 0, (2, ((0,),))))
        self.assertEqual(widened(kind("m/2"), kind("m/2 e/0 a/0"), 0, (2, ((1, 1, 1, 1),))), (2, ((1,) * 4, (0,), (0,))))
        four = kind("a/0 b/0 c/0 d/0", "f = f".replace("f", "x"))
        self.assertEqual(len(list(itertools.product(range(6), repeat=3))), 216)
        self.assertEqual(widened(three, four, 0, (6, ((1,), (2,), (3,)))), (6, ((1,), (2,), (3,), (0,))))

    def test_refused(self):
        for thing in (None, 1, (), (2, ((0,),)), nested(300), (True, ((0,),)), (2, ((0, 0, 1, 2),)), (2, ((1, 0, 0, 0),))):
            self.refuses(NoModel, widened, SEMI, UNIT, 0, thing)
        self.own(widened, SEMI, UNIT, 0, (2, ((0, 0, 0, 1),)))


if __name__ == "__main__":
    unittest.main()
