"""Leadings of a kind to another one, and roads led over: points 67b and 67c."""

import unittest

from deedworlds.errors import NoEquation, NoKind, NoLeading, NoPaper, TooBig, TooMany
from deedworlds.leadings import leading_wrong, led_road
from deedworlds.roads import road_judged
from deedworlds.terms import equation_wrong
from tests.helpers import Checks, count_parts, deed, equation, fixed_chance, kind, nested, some_term, term, tower, var
from tests.test_readings import read
from tests.walks import judged, some_road

ONE = kind("n/2 g/1 a/0", "n(n(x, y), z) = n(x, n(y, z))", "g(g(x)) = g(x)", "n(a, x) = n(x, a)")
OTHER = kind("m/2 h/1 e/0", "m(m(x, y), z) = m(x, m(y, z))", "h(h(x)) = h(x)", "m(e, x) = x", "m(x, e) = x",
             "m(x, x) = x")


def sides(line, signature=OTHER[0]):
    return equation(line, signature)


def step(number, turned, path, **put):
    return (number, turned, path, tuple(sorted((name, term(text, OTHER[0])) for name, text in put.items())))


def exchanging():
    """n as m the other way about, g as h, a as e."""
    reading = (term("m(v, u)", OTHER[0]), term("h(u)", OTHER[0]), term("e", OTHER[0]))
    roads = [
        [(term("m(z, m(y, x))", OTHER[0]), None), (term("m(m(z, y), x)", OTHER[0]), step(0, True, (), x="z", y="y", z="x"))],
        [(term("h(h(x))", OTHER[0]), None), (term("h(x)", OTHER[0]), step(1, False, (), x="x"))],
        [(term("m(x, e)", OTHER[0]), None), (term("x", OTHER[0]), step(3, False, (), x="x")),
         (term("m(e, x)", OTHER[0]), step(2, True, (), x="x"))],
    ]
    return reading, roads


def doubling():
    """n as its second place with the first one left out, g as m(u, u), a as e."""
    reading = (term("v", OTHER[0]), term("m(u, u)", OTHER[0]), term("m(e, e)", OTHER[0]))
    twice = "m(m(x, x), m(x, x))"
    roads = [
        [(term("z", OTHER[0]), None)],
        [(term(twice, OTHER[0]), None), (term("m(x, x)", OTHER[0]), step(4, False, (), x="m(x, x)"))],
        [(term("x", OTHER[0]), None), (term("m(x, x)", OTHER[0]), step(4, True, (), x="x")),
         (term("x", OTHER[0]), step(4, False, (), x="x")), (term("m(e, x)", OTHER[0]), step(2, True, (), x="x")),
         (term("x", OTHER[0]), step(2, False, (), x="x"))],
    ]
    third = kind("n/2 g/1 a/0", "n(n(x, y), z) = n(x, n(y, z))", "g(g(x)) = g(x)", "n(a, x) = n(y, x)")
    return third, reading, roads


class LeadingTest(Checks, unittest.TestCase):
    def test_right(self):
        self.assertIsNone(leading_wrong(ONE, OTHER, exchanging()))
        third, reading, roads = doubling()
        self.assertIsNone(leading_wrong(third, OTHER, (reading, roads)))
        self.assertIsNone(leading_wrong(kind("f/1"), OTHER, ((var("u"),), [])))

    def test_each_answer(self):
        reading, roads = exchanging()
        for thing in (None, (), [reading, roads], (reading,), (reading, roads, 1), nested(300), True, "leading"):
            self.assertEqual(leading_wrong(ONE, OTHER, thing), ("leading",))
        self.assertEqual(leading_wrong(ONE, OTHER, (None, roads)), ("reading", ("reading",)))
        self.assertEqual(leading_wrong(ONE, OTHER, (reading[:2] + (var("u"),), None)), ("reading", ("deed", 2)))
        big = (reading[0], tower("h", 31, var("u")), reading[2])
        self.assertEqual(leading_wrong(ONE, OTHER, (big, None)), ("big", 1))
        many = kind("n/2 g/1 a/0", "x = n(n(n(n(x, x), n(x, x)), x), x)", "g(g(x)) = g(x)")
        both = (deed("m", tower("h", 20, var("u")), tower("h", 20, var("v"))), big[1], reading[2])
        self.assertEqual(leading_wrong(many, OTHER, (both, None)), ("big", 0))
        for thing in (None, (), tuple(roads), roads[:2], roads + roads):
            self.assertEqual(leading_wrong(ONE, OTHER, (reading, thing)), ("roads",))
        for k in range(3):
            for odd, wrong in ((None, ("road",)), ([], ("road",)), (roads[k][::-1], ("road",)),
                               ([(var("z"), None)], ("begin",)), (roads[k][:1], ("end",)),
                               ([roads[k][0], (roads[k][0][0], roads[k][1][1])] + roads[k][2:], ("line", 1))):
                thing = roads[:k] + [odd] + [None] * (2 - k)
                self.assertEqual(leading_wrong(ONE, OTHER, (reading, thing)), ("road", k, wrong))

    def test_equation_isnt_asked(self):
        # as read it has more than twelve parts: no equation, but it can be read
        wide = kind("g/1", "g(g(g(x))) = g(g(g(x)))")
        reading = (tower("h", 9, var("u")),)
        sides_read = read(wide[0], reading, wide[1][0][0])
        self.assertEqual(count_parts(sides_read), 25)
        self.assertIsNone(leading_wrong(wide, OTHER, (reading, [[(sides_read, None)]])))

    def test_refused(self):
        self.refuses(NoKind, leading_wrong, 1, 2, 3)
        self.refuses(NoKind, leading_wrong, ONE, 2, 3)
        self.refuses(NoKind, leading_wrong, 1, OTHER, exchanging())


class LedTest(Checks, unittest.TestCase):
    def hold_by(self, the_kind, leading, begin, road):
        asked = (begin, road[-1][0])
        if equation_wrong(the_kind[0], asked) is not None:
            return 0
        self.assertIsNone(road_judged(the_kind, asked, road))
        ends = [read(the_kind[0], leading[0], side) for side in asked]
        told = led_road(the_kind, OTHER, leading, asked, road)
        self.assertIsNone(judged(OTHER[0], OTHER[1], ends, told))
        return len(told)

    def test_by_chance(self):
        chance = fixed_chance(71)
        third, reading, roads = doubling()
        lines = 0
        for k in range(150):
            begin = some_term(chance, ONE[0], 9, "xz")
            lines += self.hold_by(ONE, exchanging(), begin, some_road(chance, ONE, begin, 4, 12))
            road = some_road(chance, third, begin, 4, 12)
            try:
                lines += self.hold_by(third, (reading, roads), begin, road)
            except (TooBig, TooMany):
                pass
        self.assertGreater(lines, 500)

    def one_road(self, the_kind, number, path, begin, end, turned=False, **put):
        pairs = tuple(sorted((name, term(text, the_kind[0])) for name, text in put.items()))
        return [(term(begin, the_kind[0]), None), (term(end, the_kind[0]), (number, turned, path, pairs))]

    def test_doubled_and_dropped(self):
        third, reading, roads = doubling()
        leading = (reading, roads)
        for turned in (False, True):
            ends = ("g(g(g(x)))", "g(g(x))")[::-1 if turned else 1]
            road = self.one_road(third, 1, (0,), *ends, turned, x="x")
            told = led_road(third, OTHER, leading, (road[0][0], road[1][0]), road)
            self.assertEqual(len(told), 3)
            self.assertEqual([line[1][2] for line in told[1:]], [(0,), (1,)])
            ends = [read(third[0], reading, line[0]) for line in road]
            self.assertIsNone(judged(OTHER[0], OTHER[1], ends, told))
            low = ("n(g(g(y)), x)", "n(g(y), x)")[::-1 if turned else 1]
            road = self.one_road(third, 1, (0,), *low, turned, x="y")
            told = led_road(third, OTHER, leading, (road[0][0], road[1][0]), road)
            self.assertEqual(told, [(var("x"), None)])
        road = self.one_road(third, 2, (), "n(a, x)", "n(n(g(a), y), x)", x="x", y="n(g(a), y)")
        self.assertEqual(len(led_road(third, OTHER, leading, (road[0][0], road[1][0]), road)), 5)

    def test_not_counted(self):
        # what is put for y would have very many parts as read, but the road lacks y
        third, reading, roads = doubling()
        wide = tower("g", 10, var("y"))
        begin, end = deed("n", deed("a"), var("x")), deed("n", wide, var("x"))
        road = [(begin, None), (end, (2, False, (), (("x", var("x")), ("y", wide))))]
        self.assertEqual(len(led_road(third, OTHER, (reading, roads), (begin, end), road)), 5)

    def test_too_big(self):
        third, reading, roads = doubling()
        leading = (reading, roads)
        wide = tower("g", 6, var("x"))
        self.refuses(TooBig, led_road, third, OTHER, leading, (wide, wide), [(wide, None)])
        less = tower("g", 5, var("x"))
        self.assertEqual(len(led_road(third, OTHER, leading, (less, less), [(less, None)])), 1)
        less = tower("g", 3, var("x"))
        way = [(tower("g", k, var("x")), k) for k in (3, 4, 5, 6, 5, 4, 3)]
        road = [(less, None)]
        for (one, k), (ahead, other) in zip(way[1:], way):
            pairs = (("x", tower("g", min(k, other) - 1, var("x"))),)
            road.append((one, (1, k > other, (), pairs)))
        self.assertIsNone(road_judged(third, (less, less), road))
        self.refuses(TooBig, led_road, third, OTHER, leading, (less, less), road)

    def test_dropped_and_great(self):
        # the place is dropped: what is put there would have very many parts as read
        third, reading, roads = doubling()
        begin, end = (deed("n", tower("g", k, var("y")), var("x")) for k in (11, 10))
        road = [(begin, None), (end, (1, False, (0,), (("x", tower("g", 9, var("y"))),)))]
        asked = (deed("n", deed("a"), var("x")), end)
        whole = [(asked[0], None), (begin, (2, False, (), (("x", var("x")), ("y", tower("g", 11, var("y"))))))] + road[1:]
        self.assertIsNone(road_judged(third, asked, whole))
        self.assertEqual(len(led_road(third, OTHER, (reading, roads), asked, whole)), 5)

    def test_just_sixty(self):
        one = kind("g/1 c/0 k/1 n/2", "g(x) = x")
        leading = ((var("u"), tower("h", 60, deed("e")), deed("h", var("u")), deed("m", var("u"), var("v"))),
                   [[(var("x"), None), (deed("m", deed("e"), var("x")), (2, True, (), (("x", var("x")),))),
                     (var("x"), (2, False, (), (("x", var("x")),)))]])
        self.assertIsNone(leading_wrong(one, OTHER, leading))
        low = (leading[0][:1] + (tower("h", 58, deed("e")),) + leading[0][2:], leading[1])
        for inner, reading, error in ((deed("c"), low, None), (deed("k", deed("c")), low, TooBig), (deed("c"), leading, TooBig)):
            begin = deed("g", inner)
            road = [(begin, None), (inner, (0, False, (), (("x", inner),)))]
            if error:
                self.refuses(error, led_road, one, OTHER, reading, (begin, inner), road)
                self.assertEqual(len(led_road(one, OTHER, low, (deed("c"), deed("c")), [(deed("c"), None)])), 1)
            else:
                told = led_road(one, OTHER, reading, (begin, inner), road)
                self.assertEqual(max(count_parts(line[0]) for line in told), 60)
        # a road that stays at a variable, for which just sixty parts are put
        stays = kind("h/1 e/0", "u = u")
        least = kind("g/1 c/0", "g(x) = x")
        leading_there = ((var("u"), tower("h", 60, deed("e"))),
                         [[(var("x"), None), (var("x"), (0, False, (), (("u", var("x")),)))]])
        road = [(deed("g", deed("c")), None), (deed("c"), (0, False, (), (("x", deed("c")),)))]
        told = led_road(least, stays, leading_there, (deed("g", deed("c")), deed("c")), road)
        self.assertEqual([count_parts(line[0]) for line in told], [60, 60])
        # a part of 28 parts beside one of 28 in a term of 57, and both of 29 in one of 59
        for parts in (28, 29):
            half = (leading[0][:1] + (tower("h", parts, deed("e")),) + leading[0][2:], leading[1])
            begin, end = deed("n", deed("c"), deed("g", deed("c"))), deed("n", deed("c"), deed("c"))
            road = [(begin, None), (end, (0, False, (1,), (("x", deed("c")),)))]
            if parts == 28:
                told = led_road(one, OTHER, half, (begin, end), road)
                self.assertEqual(max(count_parts(line[0]) for line in told), 59)
            else:
                self.refuses(TooBig, led_road, one, OTHER, half, (begin, end), road)
        self.assertEqual(len(led_road(one, OTHER, leading, (deed("c"), deed("c")), [(deed("c"), None)])), 1)

    def long_leading(self, steps):
        """A leading whose one road stays at its place for many steps."""
        one, other = kind("a/0 b/0 g/1", "a = b"), kind("c/0 d/0 m/2", "c = d", "u = u")
        lines = [(deed("c"), None), (deed("d"), (0, False, (), ()))]
        lines += [(deed("d"), (1, False, (), (("u", deed("d")),)))] * (steps - 1)
        return one, other, ((deed("c"), deed("d"), deed("m", var("u"), var("u"))), [lines])

    def test_lines(self):
        one_step = [(deed("a"), None), (deed("b"), (0, False, (), ()))]
        two_steps = one_step + [(deed("a"), (0, True, (), ()))]
        one, other, leading = self.long_leading(599)
        told = led_road(one, other, leading, (deed("a"), deed("b")), one_step)
        self.assertEqual(len(told), 600)
        self.assertIsNone(road_judged(other, (deed("c"), deed("d")), told))
        self.refuses(TooMany, led_road, one, other, leading, (deed("a"), deed("a")), two_steps)
        for steps, error in ((299, False), (300, True)):
            one, other, leading = self.long_leading(steps)
            twice = [(deed("g", deed("a")), None), (deed("g", deed("b")), (0, False, (0,), ()))]
            for ends, road in (((deed("a"), deed("a")), two_steps), ((twice[0][0], twice[1][0]), twice)):
                if error:
                    self.refuses(TooMany, led_road, one, other, leading, ends, road)
                else:
                    self.assertEqual(len(led_road(one, other, leading, ends, road)), 599)
        # too many lines go ahead of a term that is too big, also where its copies are beyond all count
        deep = tower("g", 11, deed("a"))
        road = [(deep, None), (tower("g", 11, deed("b")), (0, False, (0,) * 10, ()))]
        one, other, leading = self.long_leading(3)
        self.refuses(TooMany, led_road, one, other, leading, (deep, road[1][0]), road)
        self.refuses(TooBig, led_road, one, other, leading, (deep, deep), road[:1])

    def test_refused(self):
        leading = exchanging()
        asked = equation("g(g(x)) = g(x)", ONE[0])
        road = [(asked[0], None), (asked[1], (1, False, (), (("x", var("x")),)))]
        self.refuses(NoKind, led_road, 1, 2, 3, 4, 5)
        self.refuses(NoKind, led_road, ONE, 2, 3, 4, 5)
        self.assertEqual(self.refuses(NoLeading, led_road, ONE, OTHER, 3, 4, 5).wrong, ("leading",))
        self.assertEqual(self.refuses(NoLeading, led_road, ONE, OTHER, (leading[0], 3), 4, 5).wrong, ("roads",))
        for thing in (4, None, sides("h(x) = x"), (tower("g", 13), var("x"))):
            self.refuses(NoEquation, led_road, ONE, OTHER, leading, thing, 5)
        for thing, wrong in ((5, ("road",)), (road[:1], ("end",)), (road[::-1], ("road",)), (nested(300), ("road",)),
                             ([(var("x"), None)], ("begin",)), ([road[0], (road[0][0], road[1][1])], ("line", 1))):
            self.assertEqual(self.refuses(NoPaper, led_road, ONE, OTHER, leading, asked, thing).wrong, wrong)
        self.own(led_road, ONE, OTHER, leading, asked, road)


if __name__ == "__main__":
    unittest.main()
