"""Points 29 and 30: roads judged, and roads made of others."""

import unittest

from deedworlds.errors import NoEquation, NoKind, NoLink, NoPlace, NoPutting, NoRoad, NoTerm, TooBig, TooMany
from deedworlds.roads import (
    MOST_LINES, road_joined, road_judged, road_placed, road_put, road_turned, road_uses, road_wrong,
)
from tests.helpers import Checks, count_parts, equation, fixed_chance, kind, nested, some_term, term, tower, var
from tests.walks import all_paths, judged, put, some_road, with_at

ONE = kind("m/2 f/1 e/0", "m(e, x) = x", "m(x, y) = m(y, x)", "f(f(x)) = m(x, z)")
FF = kind("m/2 f/1 e/0", "f(f(x)) = x")
SIGNATURE = ONE[0]
ANYTHING = [None, True, 7, "road", (), [], {"a": 1}, ((),), [()], [None], [[term("x"), None]], nested(300),
            [nested(299)], [(nested(298), None)]]
X, Y, E = var("x"), var("y"), term("e")
ROAD = [(term("f(m(e, y))"), None), (term("f(m(y, e))"), (1, False, (0,), (("x", E), ("y", Y)))),
        (term("f(m(e, y))"), (1, True, (0,), (("x", E), ("y", Y)))), (term("f(y)"), (0, False, (0,), (("x", Y),)))]
LONG = [(term("f(f(x))") if k % 2 else X, (0, k % 2 == 1, (), (("x", X),)) if k else None) for k in range(601)]


def with_line(road, at_line, line):
    return road[:at_line] + [line] + road[at_line + 1:]


def with_reason(road, k, place, thing):
    reason = list(road[k][1])
    reason[place] = thing
    return with_line(road, k, (road[k][0], tuple(reason)))


class WrongTest(Checks, unittest.TestCase):
    def test_a_right_one(self):
        self.assertIsNone(road_wrong(kind=ONE, thing=ROAD))
        self.assertIsNone(road_wrong(ONE, ROAD[:1]))
        self.assertEqual(MOST_LINES, 600)

    def test_refusals(self):
        for thing in [None, (), ONE[0], (ONE[0], [])]:
            self.refuses(NoKind, road_wrong, thing, None)
            self.refuses(NoKind, road_judged, thing, None, None)
        for thing in [None, (X,), [X, X], (X, term("g(x)", (("g", 1),))), (tower("f", 13), X)]:
            self.refuses(NoEquation, road_judged, ONE, thing, None)

    def test_no_list_of_lines(self):
        for thing in ANYTHING + [tuple(ROAD), ROAD[:2] + [()], ROAD + [None]]:
            self.assertEqual(road_wrong(ONE, thing), ("road",), thing)
            self.assertEqual(road_judged(ONE, (X, X), thing), ("road",), thing)

    def test_form_of_lines(self):
        for thing in [None, 0, (), (term("y"),), (term("y"), None), [term("y"), ROAD[3][1]], ROAD[3] + (None,),
                      (None, ROAD[3][1]), ("y", ROAD[3][1]), (("var", "t"), ROAD[3][1])]:
            self.assertEqual(road_wrong(ONE, with_line(ROAD, 3, thing)), ("road",), thing)
        self.assertEqual(road_wrong(ONE, with_line(ROAD, 0, (ROAD[0][0], ROAD[1][1]))), ("road",))
        self.assertEqual(road_wrong(ONE, ROAD[1:]), ("road",))

    def test_form_of_reasons(self):
        for thing in [0, (), [], "none", list(ROAD[1][1]), ROAD[1][1][:3], ROAD[1][1] + (0,)]:
            self.assertEqual(road_wrong(ONE, with_line(ROAD, 1, (ROAD[1][0], thing))), ("road",), thing)
        for place, things in enumerate([
                [-1, True, False, None, "1", (1,)], [0, 1, None, "no", ()],
                [None, 0, [0], (True,), (False,), (-1,), ("0",), ((0,),)],
                [None, [], {"x": E}, (("x", E), None), ((("x", E),),), (["x", E],), (("x",),), (("x", E, E),),
                 (("t", E),), (("xy", E),), ((0, E),), (("x", None),), (("x", ("deed", "e", [])),),
                 (("x", tower("f", 61)),), (("x", E), ("y", ("var", "a")))]]):
            for thing in things:
                self.assertEqual(road_wrong(ONE, with_reason(ROAD, 1, place, thing)), ("road",), thing)

    def test_a_line_that_does_not_come(self):
        for place, things in enumerate([
                [0, 2, 3, 10 ** 29], [], [(), (1,), (0, 0), (0, 1), (0, 2), (5,), (0, 0, 0), (0,) * 100],
                [(), (("x", E),), (("y", Y), ("x", E)), (("x", E), ("y", Y), ("z", Y)), (("x", E), ("z", Y)),
                 (("x", E), ("x", E), ("y", Y)), (("x", Y), ("y", E)), (("x", E), ("y", X)),
                 (("x", E), ("y", tower("f", 60)))]]):
            for thing in things:
                self.assertEqual(road_wrong(ONE, with_reason(ROAD, 1, place, thing)), ("line", 1), thing)
        self.assertEqual(road_wrong(ONE, with_reason(ROAD, 3, 1, True)), ("line", 3))
        self.assertIsNone(road_wrong(ONE, with_reason(with_reason(ROAD, 1, 3, (("x", Y), ("y", E))), 1, 1, True)))

    def test_the_least_line(self):
        broken = with_reason(with_reason(ROAD, 2, 0, 7), 3, 0, 7)
        self.assertEqual(road_wrong(ONE, broken), ("line", 2))
        self.assertEqual(road_wrong(ONE, with_reason(broken, 1, 0, 7)), ("line", 1))
        self.assertEqual(road_wrong(ONE, with_reason(broken, 3, 0, -1)), ("road",))

    def test_lines_left_out_told_twice_exchanged(self):
        self.assertEqual(road_wrong(ONE, [ROAD[0], ROAD[2], ROAD[3]]), ("line", 1))
        self.assertIsNone(road_wrong(ONE, [ROAD[0], ROAD[3]]))
        self.assertEqual(road_wrong(ONE, [ROAD[0], ROAD[1], ROAD[3]]), ("line", 2))
        for k in range(1, 4):
            self.assertEqual(road_wrong(ONE, ROAD[:k + 1] + ROAD[k:]), ("line", k + 1))
        self.assertEqual(road_wrong(ONE, [ROAD[0], ROAD[2], ROAD[1], ROAD[3]]), ("line", 1))
        self.assertEqual(road_wrong(ONE, [ROAD[0], ROAD[1], ROAD[3], ROAD[2]]), ("line", 2))
        self.assertEqual(road_wrong(ONE, [ROAD[0]] + ROAD), ("road",))

    def test_the_term_beside_the_path_stays(self):
        road = [(term("m(m(e, x), y)"), None), (term("m(x, z)"), (0, False, (0,), (("x", X),)))]
        self.assertEqual(road_wrong(ONE, road), ("line", 1))
        road[1] = (term("f(x)"), road[1][1])
        self.assertEqual(road_wrong(ONE, road), ("line", 1))
        road[1] = (term("m(x, y)"), road[1][1])
        self.assertIsNone(road_wrong(ONE, road))

    def test_a_step_that_changes_nothing_has_a_path_too(self):
        still = kind("m/2 f/1 e/0", "x = x")
        for path, inner in [((), term("f(y)")), ((0,), Y)]:
            road = [(term("f(y)"), None), (term("f(y)"), (0, False, path, (("x", inner),)))]
            self.assertIsNone(road_wrong(still, road))
            for other in [(1,), (0, 0), (5,), (0, 1), (0,) * 70]:
                self.assertEqual(road_wrong(still, with_reason(road, 1, 2, other)), ("line", 1))

    def test_parts(self):
        by = (0, False, (), (("x", tower("f", 58)),))
        self.assertIsNone(road_wrong(FF, [(tower("f", 60), None), (tower("f", 58), by)]))
        self.assertEqual(road_wrong(FF, [(tower("f", 61), None)]), ("road",))
        by = (0, True, (), (("x", tower("f", 59)),))
        self.assertEqual(road_wrong(FF, [(tower("f", 59), None), (tower("f", 61), by)]), ("road",))

    def test_how_many_lines(self):
        self.assertIsNone(road_wrong(FF, LONG[:600]))
        self.assertEqual(road_wrong(FF, LONG), ("road",))
        self.assertEqual(road_judged(FF, (X, X), LONG), ("road",))
        self.assertIsNone(road_judged(FF, (X, X), LONG[:599]))
        self.assertEqual(road_wrong(FF, with_line(LONG, 599, (E, LONG[599][1]))[:600]), ("line", 599))

    def test_kinds_with_equations_turned_exchanged_less(self):
        left, right = ONE[1][0]
        self.assertEqual(road_wrong((SIGNATURE, ((right, left),) + ONE[1][1:]), ROAD), ("line", 3))
        self.assertEqual(road_wrong((SIGNATURE, ONE[1][1::-1] + ONE[1][2:]), ROAD), ("line", 1))
        self.assertEqual(road_wrong((SIGNATURE, ONE[1][:1]), ROAD), ("line", 1))
        self.assertIsNone(road_wrong((SIGNATURE, ONE[1][:2]), ROAD))
        self.assertEqual(road_wrong((SIGNATURE, ()), ROAD), ("line", 1))
        self.assertIsNone(road_wrong((SIGNATURE, ()), ROAD[:1]))
        self.assertEqual(road_wrong((SIGNATURE[:2], ()), ROAD), ("road",))

    def test_judged(self):
        ends = (ROAD[0][0], ROAD[-1][0])
        self.assertIsNone(road_judged(kind=ONE, equation=ends, thing=ROAD))
        self.assertEqual(road_judged(ONE, ends[::-1], ROAD), ("begin",))
        self.assertEqual(road_judged(ONE, (ends[0], X), ROAD), ("end",))
        self.assertEqual(road_judged(ONE, (X, X), ROAD), ("begin",))
        broken = with_reason(ROAD, 2, 0, 7)
        self.assertEqual(road_judged(ONE, (X, X), broken), ("begin",))
        self.assertEqual(road_judged(ONE, (ends[0], X), broken), ("line", 2))
        self.assertEqual(road_judged(ONE, (X, X), with_reason(ROAD, 2, 0, -7)), ("road",))
        self.assertIsNone(road_judged(ONE, (X, X), [(X, None)]))
        self.assertEqual(road_judged(ONE, (X, Y), [(X, None)]), ("end",))

    def test_against_the_words_of_the_document(self):
        chance = fixed_chance(29)
        told = set()
        for step in range(600):
            ends = (some_term(chance, SIGNATURE, 6, "xyz"), some_term(chance, SIGNATURE, 4, "xyz"))
            road = some_road(chance, ONE, ends[0], chance.randrange(6))
            road = self.spoilt(chance, road)
            wanted = judged(SIGNATURE, ONE[1], None, road)
            self.assertEqual(road_wrong(ONE, road), wanted)
            told.add(wanted)
            last = road[-1][0] if count_parts(road[-1][0]) < 13 else X
            ends = (chance.choice([ends[0], ends[0], ends[1]]), chance.choice([ends[1], last]))
            wanted = judged(SIGNATURE, ONE[1], ends, road)
            self.assertEqual(road_judged(ONE, ends, road), wanted)
            told.add(wanted)
        for wanted in [None, ("road",), ("begin",), ("end",), ("line", 1), ("line", 2), ("line", 3)]:
            self.assertIn(wanted, told)

    def spoilt(self, chance, road):
        """The road, or one with a line left out, twice, exchanged, or with another thing in a reason."""
        k = chance.randrange(1, len(road)) if len(road) > 1 else 0
        way = chance.randrange(9)
        if k == 0 or way < 2:
            return road
        if way == 2:
            return road[:k] + road[k + 1:]
        if way == 3:
            return road[:k] + [road[k]] + road[k:]
        if way == 4:
            other = chance.randrange(1, len(road))
            told = list(road)
            told[k], told[other] = told[other], told[k]
            return told
        if way == 5:
            return with_reason(road, k, 0, chance.randrange(-1, 4))
        if way == 6:
            return with_reason(road, k, 1, not road[k][1][1])
        if way == 7:
            return with_reason(road, k, 2, chance.choice(all_paths(road[k - 1][0])))
        return with_line(road, k, (some_term(chance, SIGNATURE, 5, "xyz"), road[k][1]))


class MadeTest(Checks, unittest.TestCase):
    def some_roads(self):
        chance = fixed_chance(30)
        for step in range(60):
            yield chance, some_road(chance, ONE, some_term(chance, SIGNATURE, 7, "xyz"), chance.randrange(7))

    def test_turned(self):
        for chance, road in self.some_roads():
            told = road_turned(kind=ONE, road=road)
            self.assertIsNone(road_wrong(ONE, told))
            self.assertEqual([one for one, reason in told], [one for one, reason in road][::-1])
            self.assertEqual([(reason[0], not reason[1]) + reason[2:] for one, reason in told[1:]][::-1],
                             [reason for one, reason in road[1:]])
            self.assertEqual(road_turned(ONE, told), road)

    def test_joined(self):
        for chance, road in self.some_roads():
            other = some_road(chance, ONE, road[-1][0], chance.randrange(5))
            told = road_joined(kind=ONE, one=road, other=other)
            self.assertIsNone(road_wrong(ONE, told))
            self.assertEqual(told, road + other[1:])
            self.assertEqual(road_joined(ONE, road, road_turned(ONE, road))[-1][0], road[0][0])

    def test_joined_link_and_lines(self):
        self.refuses(NoLink, road_joined, ONE, ROAD, ROAD)
        self.assertEqual(road_joined(FF, LONG[:301], LONG[:300]), LONG[:600])
        self.refuses(TooMany, road_joined, FF, LONG[:301], LONG[:301])
        self.refuses(NoLink, road_joined, FF, LONG[:302], LONG[:301])
        self.assertEqual(road_joined(FF, LONG[:599], LONG[:1]), LONG[:599])

    def test_placed(self):
        for chance, road in self.some_roads():
            around = some_term(chance, SIGNATURE, 6)
            path = chance.choice(all_paths(around))
            told = road_placed(kind=ONE, road=road, term=around, path=path)
            self.assertIsNone(road_wrong(ONE, told))
            self.assertEqual([one for one, reason in told], [with_at(around, path, one) for one, reason in road])
            self.assertEqual([reason for one, reason in told[1:]],
                             [(reason[0], reason[1], path + reason[2], reason[3]) for one, reason in road[1:]])
            self.assertEqual(road_placed(ONE, road, around, ())[0], road[0])

    def test_placed_too_big(self):
        road = [(tower("f", 4), None), (tower("f", 2), (0, False, (), (("x", tower("f", 2)),)))]
        self.assertEqual(count_parts(road_placed(FF, road, tower("f", 57), (0,) * 56)[0][0]), 60)
        self.refuses(TooBig, road_placed, FF, road, tower("f", 58), (0,) * 57)
        self.refuses(TooBig, road_placed, FF, road_turned(FF, road), tower("f", 58), (0,) * 57)
        self.assertEqual(len(road_placed(FF, road, tower("f", 60), (0,) * 56)), 2)
        self.refuses(TooBig, road_placed, FF, road, tower("f", 60), (0,) * 57)

    def test_put(self):
        for chance, road in self.some_roads():
            by = {name: some_term(chance, SIGNATURE, 3) for name in chance.sample("uvwxyz", 3)}
            if max(count_parts(put(one, by)) for one, reason in road) > 60:
                self.refuses(TooBig, road_put, ONE, road, by)
                continue
            told = road_put(kind=ONE, road=road, putting=by)
            self.assertIsNone(road_wrong(ONE, told))
            self.assertEqual([one for one, reason in told], [put(one, by) for one, reason in road])
            self.assertEqual([reason for one, reason in told[1:]], [
                reason[:3] + (tuple((name, put(one, by)) for name, one in reason[3]),)
                for other, reason in road[1:]])
            self.assertEqual(road_put(ONE, road, {}), road)

    def test_put_at_once(self):
        road = [(term("m(x, y)"), None), (term("m(y, x)"), (1, False, (), (("x", X), ("y", Y))))]
        told = road_put(ONE, road, {"x": Y, "y": X})
        self.assertEqual(told, [(term("m(y, x)"), None), (term("m(x, y)"), (1, False, (), (("x", Y), ("y", X))))])

    def test_put_too_big(self):
        road = [(term("f(f(x))"), None), (X, (0, False, (), (("x", X),)))]
        for one in (road, road_turned(FF, road)):
            self.assertEqual(len(road_put(FF, one, {"x": tower("f", 58), "y": tower("f", 60)})), 2)
            self.refuses(TooBig, road_put, FF, one, {"x": tower("f", 59)})

    def test_uses(self):
        self.assertEqual(road_uses(kind=ONE, road=ROAD), [0, 1])
        self.assertEqual(road_uses(ONE, ROAD[:1]), [])
        self.assertEqual(road_uses(FF, LONG[:600]), [0])
        for chance, road in self.some_roads():
            self.assertEqual(road_uses(ONE, road), sorted({reason[0] for one, reason in road[1:]}))

    def test_no_kind_then_no_road(self):
        for function, things in [(road_turned, ()), (road_uses, ()), (road_joined, (None,)),
                                 (road_placed, (None, None)), (road_put, (None,))]:
            self.refuses(NoKind, function, None, None, *things)
            self.refuses(NoKind, function, (SIGNATURE, None), ROAD, *things)
            for thing in ANYTHING + [with_reason(ROAD, 2, 0, 7), ROAD[1:], tuple(ROAD)]:
                self.refuses(NoRoad, function, ONE, thing, *things)
        for thing in ANYTHING + [with_reason(ROAD, 2, 0, 7)]:
            self.refuses(NoRoad, road_joined, ONE, ROAD, thing)
            self.refuses(NoRoad, road_joined, ONE, thing, ROAD[-1:])
        self.refuses(NoRoad, road_joined, ONE, with_reason(ROAD, 2, 0, 7), [(ROAD[-1][0], None)])

    def test_no_term_no_place_no_putting(self):
        for thing in [None, ("var", "a"), tower("f", 61), term("e")[:2], nested(300)]:
            self.refuses(NoTerm, road_placed, ONE, ROAD, thing, None)
        for path in [None, [], [0], (1,), (0, 0), (True,), (False,), (-1,), "0", 0, nested(300)]:
            self.refuses(NoPlace, road_placed, ONE, ROAD, term("f(x)"), path)
            self.refuses(NoPlace, road_placed, FF, [(tower("f", 60), None)], term("f(x)"), path)
        for putting in [{"a": X}, {"x": None}, {"xy": X}, {"x": tower("f", 61)}, {"x": X, "y": [X]}]:
            self.refuses(NoPutting, road_put, ONE, ROAD, putting)

    def test_told_lists_are_own(self):
        self.own(road_turned, ONE, ROAD)
        self.own(road_joined, ONE, ROAD, road_turned(ONE, ROAD))
        self.own(road_joined, ONE, ROAD[:1], ROAD[:1])
        self.own(road_placed, ONE, ROAD, term("f(x)"), (0,))
        self.own(road_put, ONE, ROAD, {"y": E})
        self.own(road_uses, ONE, ROAD)
        self.own(road_wrong, ONE, ROAD)
        self.own(road_judged, ONE, equation("x = x"), ROAD)


if __name__ == "__main__":
    unittest.main()
