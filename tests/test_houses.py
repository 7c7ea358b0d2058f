"""The house: points 46 to 49a, and 3."""

import copy
import unittest

from deedworlds.answers import answered
from deedworlds.completion import completed
from deedworlds.errors import (
    DeedError, NoAnswer, NoBack, NoDeed, NoEquation, NoFit, NoLeading, NoNumber, NoPaper, NoRenaming, NoSignature, NoSize,
    NoTitle, TooBig, TooMany,
)
from deedworlds.following import road_for
from deedworlds.houses import House
from deedworlds.judge import claim_judged
from tests.helpers import Checks, deed, equation, fixed_chance, kind, lists_in, nested, some_term, spoil, tower, var
from tests.test_leadings import OTHER, exchanging
from tests.test_leadings import ONE as FIRST
from tests.test_readings import read
from tests.worlds import World, seen_of

ODD = (None, True, 1, "A", "", "abcdefghi", "a b", [], (), ["m"], nested(300), b"m".decode().upper())
M = (("m", 2), ("e", 0))
LOOPS = kind("f/1 g/1", "f(f(x)) = g(f(x))", "g(g(x)) = x")


def one_book(the_kind, *claims, **bounds):
    house = House(**bounds)
    house.begin("book", the_kind[0])
    for one in the_kind[1]:
        house.put("book", one)
    for one in claims:
        house.claim("book", equation(one, the_kind[0]))
    return house


class BooksTest(Checks, unittest.TestCase):
    def test_bounds(self):
        for size in (0, 7, True, None, "3", nested(300)):
            self.refuses(NoSize, House, size=size, parts=0)
        for parts in (0, 61, True, None, nested(300)):
            self.refuses(NoNumber, House, parts=parts)
        self.assertEqual((len(House()), House().books()), (0, []))
        with self.assertRaises(TypeError):
            House(3, 7)
        house = one_book(kind("m/2 e/0"), "m(x, y) = m(y, x)", size=2, parts=3)
        self.assertEqual(house.ask("book", 0), answered(kind("m/2 e/0"), house.claims("book")[0], 2, parts=3))

    def test_titles(self):
        house = House()
        for title in ODD:
            self.refuses(NoTitle, house.begin, title, 5)
            for word, more in (("end", ()), ("put", (5,)), ("strike", (5,)), ("claim", (5,)), ("drop", (5,)), ("ask", (5,)),
                               ("learn", (5, 6)), ("teach", (5,)), ("settle", ()), ("lead", (5, 6)), ("take", (5, 6)),
                               ("suppose", (5, 6)), ("kind", ()), ("claims", ()), ("paper", ()), ("known", (5,)),
                               ("states", ()), ("leaning", (5,)), ("join", (5, 6, 7))):
                self.refuses(NoTitle, getattr(house, word), title, *more)
        for k in range(8):
            self.assertIsNone(house.begin("abcdefgh"[k:], M))
        self.refuses(NoTitle, house.begin, "h", 5)
        self.refuses(NoSignature, house.begin, "i", 5)
        self.refuses(TooMany, house.begin, "i", M)
        self.assertEqual((len(house), house.books()), (8, ["abcdefgh"[k:] for k in range(8)]))
        self.assertIsNone(house.end("fgh"))
        self.refuses(NoTitle, house.end, "fgh")
        self.assertIsNone(house.begin("fgh", (("f", 1),)))
        self.assertEqual(house.books()[-1], "fgh")
        self.assertEqual(house.kind("fgh"), ((("f", 1),), ()))

    def test_axioms_and_claims(self):
        house = one_book(kind("f/1 e/0"))
        for k in range(8):
            self.assertEqual(house.put("book", (tower("f", k + 2), var("x"))), [])
        self.refuses(NoEquation, house.put, "book", 5)
        self.refuses(TooMany, house.put, "book", (var("x"), var("x")))
        for k in range(16):
            self.assertEqual(house.claim("book", (tower("f", k % 8 + 1), deed("e"))), k)
        self.refuses(NoEquation, house.claim, "book", (var("x"), deed("m")))
        self.refuses(TooMany, house.claim, "book", (var("x"), var("x")))
        for number in (8, -1, True, None, "0", nested(300)):
            self.refuses(NoNumber, house.strike, "book", number)
        self.assertEqual(house.strike("book", 0), [])
        self.assertEqual(house.kind("book")[1], tuple((tower("f", k + 2), var("x")) for k in range(1, 8)))
        for number in (16, -1, True, None, "0"):
            for word in ("drop", "ask", "known", "leaning"):
                self.refuses(NoNumber, getattr(house, word), "book", number)
            self.refuses(NoNumber, house.learn, "book", number, None)
        self.assertIsNone(house.drop("book", 3))
        self.assertEqual(len(house.claims("book")), 15)
        self.assertEqual(house.claims("book")[3], (tower("f", 5), deed("e")))


class KnownTest(Checks, unittest.TestCase):
    def monoid(self):
        return one_book(kind("m/2 e/0", "m(m(x, y), z) = m(x, m(y, z))", "m(e, x) = x", "m(x, e) = x"),
                        "m(e, e) = e", "m(x, y) = m(y, x)", "m(m(x, e), y) = m(x, y)", "m(m(e, x), y) = m(x, m(y, e))",
                        "m(x, x) = x")

    def test_ask_and_fall(self):
        house = self.monoid()
        self.assertEqual(house.states("book"), ["unasked"] * 5)
        self.assertIsNone(house.known("book", 0))
        self.assertIsNone(house.leaning("book", 0))
        told = house.ask("book", 1)
        self.assertEqual(told[0], "model")
        self.assertEqual(house.searched(), [(house.kind("book"), house.claims("book")[1])])
        self.assertEqual(house.ask("book", 1), told)
        self.assertEqual(len(house.searched()), 1)
        self.assertEqual(house.settle("book"), [0, 2, 3, 4])
        self.assertEqual(house.settle("book"), [])
        self.assertEqual(house.states("book"), ["holds", "refuted", "holds", "holds", "refuted"])
        leans = [house.leaning("book", number) for number in range(5)]
        self.assertEqual([leans[1], leans[4]], [None, None])
        before = [house.known("book", number) for number in range(5)]
        self.assertEqual(house.put("book", equation("m(x, y) = m(y, x)", M)), [1])
        self.assertEqual([house.known("book", number) for number in (0, 2, 3, 4)], [before[k] for k in (0, 2, 3, 4)])
        fallen = [number for number in (0, 2, 3) if 2 in leans[number]]
        self.assertEqual(house.strike("book", 2), fallen)
        self.assertEqual(house.strike("book", 0), [])
        for number in range(5):
            answer = house.known("book", number)
            if answer is not None:
                self.assertIsNone(claim_judged(house.kind("book"), house.claims("book")[number], answer))

    def test_roads_renumbered(self):
        house = one_book(kind("f/1 g/1 e/0", "f(e) = e", "g(e) = e", "f(x) = g(x)"), "g(g(e)) = e", "f(f(e)) = f(e)")
        house.settle("book")
        self.assertEqual([house.leaning("book", 0), house.leaning("book", 1)], [[1], [0]])
        self.assertEqual(house.strike("book", 0), [1])
        self.assertEqual(house.leaning("book", 0), [0])
        self.assertEqual(house.put("book", equation("f(e) = e", house.kind("book")[0])), [])
        self.assertIsNone(claim_judged(house.kind("book"), house.claims("book")[0], house.known("book", 0)))

    def test_open_falls(self):
        house = one_book(kind("f/1", "f(f(f(x))) = x"), "f(x) = x", size=2, parts=4)
        self.assertEqual(house.ask("book", 0)[0], "open")
        self.assertEqual(house.states("book"), ["open"])
        self.assertIsNone(house.leaning("book", 0))
        self.assertEqual(house.put("book", equation("f(x) = f(x)", (("f", 1),))), [0])
        house.ask("book", 0)
        self.assertEqual(house.strike("book", 1), [0])
        self.assertEqual(house.states("book"), ["unasked"])

    def test_learn(self):
        house = one_book(kind("f/1", "f(f(f(x))) = x"), "f(x) = x", size=2, parts=4)
        the_kind, claim = house.kind("book"), house.claims("book")[0]
        opened, model = answered(the_kind, claim, 2, parts=4), answered(the_kind, claim, 3)
        self.assertEqual((opened[0], model[0]), ("open", "model"))
        for thing in (None, (), ("open",), nested(300), ("model", 1, 2)):
            told = self.refuses(NoAnswer, house.learn, "book", 0, thing)
            self.assertEqual(told.wrong, claim_judged(the_kind, claim, thing))
        self.assertEqual(house.states("book"), ["unasked"])
        self.assertEqual(house.learn("book", 0, opened), "open")
        other = answered(the_kind, claim, 1, parts=4)
        self.assertEqual(house.learn("book", 0, other), "open")
        self.assertEqual(house.known("book", 0), other)
        self.assertEqual(house.learn("book", 0, model), "refuted")
        self.assertEqual(house.learn("book", 0, opened), "refuted")
        self.assertEqual(house.known("book", 0), model)
        house.back()
        house.back()
        self.assertEqual(house.known("book", 0), other)
        house.again()
        self.assertEqual(house.known("book", 0), model)
        self.assertEqual(house.searched(), [])

    def test_teach(self):
        house = one_book(LOOPS, "f(f(f(x))) = f(x)", "f(x) = x")
        paper = completed(LOOPS, ((1, 1), (0, 1)))[1]
        handed = copy.deepcopy(paper)
        self.assertIsNone(house.teach("book", handed))
        spoil(handed)
        self.assertEqual(house.paper("book"), paper)
        spoil(house.paper("book"))
        self.assertEqual(house.paper("book"), paper)
        self.assertEqual(self.refuses(NoPaper, house.teach, "book", handed).wrong[0], "lemmas")
        self.assertEqual(self.refuses(NoPaper, house.teach, "book", None).wrong, ("paper",))
        self.assertEqual(house.settle("book"), [0, 1])
        self.assertEqual(house.states("book"), ["holds", "refuted"])
        self.assertEqual([house.known("book", k)[0] for k in range(2)], ["rules", "rules"])
        self.assertIsNone(house.leaning("book", 0))
        self.assertEqual(house.put("book", equation("f(g(x)) = f(g(x))", LOOPS[0])), [0, 1])
        self.assertIsNone(house.paper("book"))
        house.back()
        self.assertEqual(house.paper("book"), paper)
        self.assertEqual(house.strike("book", 0), [0, 1])
        self.assertIsNone(house.paper("book"))
        house.teach("book", completed(house.kind("book"), ((1, 1), (0, 1)))[1])
        self.assertEqual(house.learn("book", 1, house.ask("book", 1)), "refuted")

    def test_settle_refused_stays(self):
        house = one_book(kind("m/2", "m(x, y) = m(y, x)"), "m(x, y) = m(y, x)", "m(m(x, y), z) = m(z, m(y, x))",
                         "m(x, m(y, z)) = m(m(m(z, y), x), m(x, x))", "m(x, x) = x", size=6, parts=3)
        self.refuses(TooMany, house.ask, "book", 1)
        self.assertEqual(house.settle("book"), [0, 2, 3])
        self.assertEqual(house.states("book"), ["holds", "unasked", "refuted", "refuted"])
        claims = house.claims("book")
        self.assertEqual([claims.index(claim) for the_kind, claim in house.searched()], [1, 0, 1, 2, 3])
        self.assertEqual(house.log()[-2:], [("ask", "refused"), ("settle", "done")])
        taught = one_book(kind("f/1 g/1 h/1", "h(x) = f(f(f(f(f(f(x))))))", "f(g(x)) = g(f(x))"))
        taught.teach("book", completed(taught.kind("book"), ((1, 1, 100), (1, 0, 2)))[1])
        taught.claim("book", (tower("h", 12), var("x")))
        taught.claim("book", (tower("h", 2), var("x")))
        self.refuses(TooBig, taught.ask, "book", 0)
        self.assertEqual(taught.settle("book"), [1])


class LeadTest(Checks, unittest.TestCase):
    def two(self, *claims, others=()):
        house = House(size=2, parts=9)
        for title, the_kind in (("one", FIRST), ("other", OTHER)):
            house.begin(title, the_kind[0])
            for row in the_kind[1]:
                house.put(title, row)
        for claim in claims:
            house.claim("one", equation(claim, FIRST[0]))
        for claim in others:
            house.claim("other", equation(claim, OTHER[0]))
        return house

    def test_lead(self):
        house = self.two("g(g(g(x))) = g(x)", "n(x, y) = n(y, x)", "n(a, g(x)) = n(g(x), a)", "g(x) = x",
                         others=("m(h(x), e) = m(e, h(x))", "h(x) = x"))
        house.settle("one")
        self.assertEqual(house.states("one"), ["holds", "open", "holds", "refuted"])
        self.assertEqual(house.lead("one", "other", exchanging()), [2, 0])
        self.assertEqual(house.claims("other")[2], equation("h(h(h(x))) = h(x)", OTHER[0]))
        self.assertEqual(house.states("other"), ["holds", "unasked", "holds"])
        for number in (0, 2):
            self.assertIsNone(claim_judged(OTHER, house.claims("other")[number], house.known("other", number)))
        self.assertEqual(house.lead("one", "other", exchanging()), [])
        self.assertEqual(house.log()[-1], ("lead", "done"))
        house.back()
        self.assertEqual(house.states("other"), ["unasked", "unasked"])

    def test_lead_too_many(self):
        house = self.two("g(g(g(x))) = g(x)", "g(g(x)) = g(x)")
        house.settle("one")
        for k in range(15):
            house.claim("other", (tower("h", k % 9 + 3), deed("e")))
        before = seen_of(house)
        self.refuses(TooMany, house.lead, "one", "other", exchanging())
        after = seen_of(house)
        self.assertEqual(after.pop("log"), before.pop("log") + [("lead", "refused")])
        self.assertEqual(before, after)
        house.drop("other", 0)
        self.assertEqual(house.lead("one", "other", exchanging()), [14, 15])

    def test_take(self):
        house = self.two("n(x, y) = y", "g(x) = x", "g(g(x)) = g(x)", "n(x, g(z)) = n(x, x)",
                         others=("m(y, x) = y", "h(x) = x", "h(h(x)) = h(x)", "m(h(z), x) = m(x, x)"))
        house.settle("other")
        self.assertEqual(house.states("other"), ["refuted", "refuted", "holds", "refuted"])
        self.assertEqual(house.take("one", "other", exchanging()), [0, 1, 3])
        for number in (0, 1, 3):
            self.assertIsNone(claim_judged(FIRST, house.claims("one")[number], house.known("one", number)))
        self.assertEqual(house.take("one", "other", exchanging()), [])
        house.back()
        self.assertEqual(house.states("one"), ["unasked"] * 4)

    def test_lead_what_is_no_equation_as_read(self):
        house = House(size=2, parts=9)
        house.begin("one", (("f", 1), ("g", 1)))
        house.begin("other", (("h", 1),))
        for line in ("f(f(f(x))) = f(f(f(x)))", "f(f(x)) = f(f(x))", "g(g(g(g(x)))) = g(g(g(g(x))))", "x = x"):
            house.claim("one", equation(line, LOOPS[0]))
        house.settle("one")
        # f as four deeds, g as twenty: thirteen parts, nine, more than sixty, one
        leading = ((tower("h", 5, var("u")), tower("h", 21, var("u"))), [])
        self.assertEqual(house.lead("one", "other", leading), [0, 1])
        self.assertEqual(house.claims("other"), [(tower("h", 9), tower("h", 9)), (var("x"), var("x"))])
        self.assertEqual(house.take("one", "other", leading), [])

    def test_take_what_was_open(self):
        house = self.two("g(x) = x", others=("h(x) = x",))
        house.learn("one", 0, answered(FIRST, house.claims("one")[0], 1, parts=3))
        house.ask("other", 0)
        self.assertEqual((house.states("one"), house.states("other")), (["open"], ["refuted"]))
        self.assertEqual(house.take("one", "other", exchanging()), [0])
        self.assertEqual(house.states("one"), ["refuted"])

    def test_lead_over_an_open_one(self):
        house = self.two("g(g(g(x))) = g(x)", others=("h(x) = h(x)", "h(h(h(x))) = h(x)", "h(h(h(x))) = h(x)"))
        house.ask("one", 0)
        house.learn("other", 1, answered(OTHER, house.claims("other")[1], 1, parts=2))
        self.assertEqual(house.states("other"), ["unasked", "open", "unasked"])
        self.assertEqual(house.lead("one", "other", exchanging()), [1])
        self.assertEqual(house.states("other"), ["unasked", "holds", "unasked"])

    def test_take_letters_that_it_lacks(self):
        house = House(size=2)
        house.begin("one", (("n", 2),))
        house.begin("other", (("f", 1),))
        house.claim("one", equation("n(x, y) = n(z, u)", (("n", 2),)))
        house.claim("other", equation("f(y) = f(u)", (("f", 1),)))
        house.ask("other", 0)
        leading = ((deed("f", var("v")),), [])
        self.assertEqual(house.take("one", "other", leading), [0])
        word, model, worths = house.known("one", 0)
        other = house.known("other", 0)
        self.assertEqual(worths, (other[2][0], 0, other[2][1], 0))
        self.assertIsNone(claim_judged(house.kind("one"), house.claims("one")[0], (word, model, worths)))

    def test_one_book_alone(self):
        # a book led to itself: its claims grow while it is led, those ahead of the deed count
        house = one_book(kind("f/1 g/1", "f(f(x)) = f(x)", "g(g(x)) = g(x)"), "f(f(f(x))) = f(x)", size=2)
        house.settle("book")
        swap = ((deed("g", var("u")), deed("f", var("u"))),
                [[(tower("g", 3), None), (tower("g", 2), (1, False, (), (("x", var("x")),)))],
                 [(tower("f", 3), None), (tower("f", 2), (0, False, (), (("x", var("x")),)))]])
        self.assertEqual(house.lead("book", "book", swap), [1])
        self.assertEqual(house.lead("book", "book", swap), [])
        house.claim("book", equation("f(x) = x", LOOPS[0]))
        house.claim("book", equation("g(x) = x", LOOPS[0]))
        house.ask("book", 2)
        self.assertEqual(house.take("book", "book", swap), [3])

    def test_refused(self):
        house = self.two("g(x) = x")
        for word in ("lead", "take"):
            self.refuses(NoTitle, getattr(house, word), "none", "one", 5)
            self.refuses(NoTitle, getattr(house, word), "one", None, 5)
            told = self.refuses(NoLeading, getattr(house, word), "one", "other", 5)
            self.assertEqual(told.wrong, ("leading",))
            told = self.refuses(NoLeading, getattr(house, word), "other", "one", exchanging())
            self.assertEqual(told.wrong[0], "reading")

    def test_suppose(self):
        house = one_book(kind("m/2 e/0", "m(e, x) = x", "m(x, e) = x"), "e = e", size=2)
        the_kind = house.kind("book")
        from deedworlds.conjectures import conjectures
        told = conjectures(the_kind, 2, parts=5, letters=1)
        self.assertTrue(told)
        self.assertEqual(house.suppose("book", 5, 1), list(range(1, 1 + len(told))))
        self.assertEqual(house.claims("book")[1:], told)
        self.assertEqual(house.suppose("book", 5, 1), [])
        self.assertEqual([row for row in house.log() if row[0] == "suppose"], [("suppose", "done")] * 2)
        house.back()
        self.assertEqual(len(house.claims("book")), 1)
        for parts, letters in ((0, 1), (6, 1), (True, 1), (None, 1), (3, 3), (3, -1)):
            self.refuses(NoNumber, house.suppose, "book", parts, letters)
        wide = one_book(kind("f/1 g/1 h/1", "x = y"), size=1)
        self.refuses(TooMany, wide.suppose, "book", 5, 2)
        self.assertEqual(wide.suppose("book", 4, 2), list(range(16)))
        self.assertEqual(wide.suppose("book", 4, 2), [])


class JoinTest(Checks, unittest.TestCase):
    def test_join(self):
        house = House(size=2)
        house.begin("semi", (("m", 2),))
        house.put("semi", equation("m(m(x, y), z) = m(x, m(y, z))", (("m", 2),)))
        house.begin("unit", (("n", 2), ("a", 0)))
        house.put("unit", equation("n(a, x) = x", (("n", 2), ("a", 0))))
        for line in ("m(m(x, x), x) = m(x, m(x, x))", "m(x, y) = m(y, x)"):
            house.claim("semi", equation(line, (("m", 2),)))
        for line in ("n(x, y) = n(y, x)", "n(a, a) = a", "n(x, x) = x"):
            house.claim("unit", equation(line, (("n", 2), ("a", 0))))
        house.settle("semi")
        house.settle("unit")
        told = house.join("both", "semi", "unit", ("m", "e"))
        self.assertEqual(house.books(), ["semi", "unit", "both"])
        self.assertEqual(house.kind("both")[0], (("m", 2), ("e", 0)))
        self.assertEqual(house.claims("both"), [equation(line, M) for line in (
            "m(m(x, x), x) = m(x, m(x, x))", "m(x, y) = m(y, x)", "m(e, e) = e", "m(x, x) = x")])
        self.assertEqual(told, [number for number, state in enumerate(house.states("both")) if state != "unasked"])
        self.assertEqual(house.states("both")[0], "holds")
        self.assertEqual(house.states("both")[2], "holds")
        for number in told:
            self.assertIsNone(claim_judged(house.kind("both"), house.claims("both")[number], house.known("both", number)))
        house.back()
        self.assertEqual(house.books(), ["semi", "unit"])

    def test_refused(self):
        house = House()
        house.begin("one", M)
        house.begin("other", (("m", 1), ("a", 0)))
        for title in ODD + ("one",):
            self.refuses(NoTitle, house.join, title, 5, 6, 7)
        self.refuses(NoTitle, house.join, "new", 5, "other", 7)
        self.refuses(NoTitle, house.join, "new", "one", "others", 7)
        for renaming in (None, ("m",), ("m", "m"), ("m", 1), ["m", "a"]):
            self.refuses(NoRenaming, house.join, "new", "one", "other", renaming)
        self.assertEqual(self.refuses(NoFit, house.join, "new", "one", "other", ("m", "a")).name, "m")
        house.begin("four", (("a", 0), ("b", 0), ("c", 0), ("d", 0)))
        self.refuses(TooMany, house.join, "new", "four", "other", ("f", "a"))
        self.assertEqual(house.join("new", "one", "other", ("f", "e")), [])
        for k in range(9):
            house.claim("one", (tower("e", 1, deed("e")), deed("m", *[tower("f", 1)] * 2)))
            house.claim("other", (tower("m", k + 1), deed("a")))
        self.assertEqual(house.join("once", "one", "other", ("f", "e")), [])
        self.assertEqual(len(house.claims("once")), 10)
        for k in range(7):
            house.claim("one", (tower("e", 1, deed("e")), deed("m", deed("e"), tower("e", 1, var("uvwxyzu"[k])))))
        self.assertEqual(len(set(house.claims("one"))), 7)
        self.assertEqual(house.join("full", "one", "other", ("f", "e")), [])
        self.assertEqual(len(house.claims("full")), 16)
        house.drop("one", 0)
        house.claim("one", (deed("e"), deed("e")))
        self.refuses(TooMany, house.join, "more", "one", "other", ("f", "e"))
        house.begin("g", M)
        house.begin("h", M)
        self.assertEqual(len(house), 8)
        self.refuses(TooMany, house.join, "more", "g", "h", ("m", "e"))


class BackTest(Checks, unittest.TestCase):
    def test_back_and_again(self):
        house = House(size=2)
        self.refuses(NoBack, house.back)
        self.refuses(NoBack, house.again)
        house.begin("a", M)
        house.claim("a", equation("m(x, y) = m(y, x)", M))
        house.ask("a", 0)
        known = house.known("a", 0)
        for step in range(3):
            self.assertIsNone(house.back())
        self.assertEqual(house.books(), [])
        self.refuses(NoBack, house.back)
        for step in range(3):
            self.assertIsNone(house.again())
        self.refuses(NoBack, house.again)
        self.assertEqual(house.known("a", 0), known)
        self.assertEqual(len(house.searched()), 1)
        house.back()
        house.ask("a", 0)
        self.refuses(NoBack, house.again)
        self.assertEqual(len(house.searched()), 2)
        house.back()
        house.settle("a")
        house.settle("a")
        house.back()
        self.assertEqual(house.states("a"), ["unasked"])
        self.assertEqual(house.log()[:4], [("back", "refused"), ("again", "refused"), ("begin", "done"), ("claim", "done")])

    def test_not_a_deed(self):
        house = one_book(kind("m/2 e/0"), "e = e")
        house.settle("book")
        house.back()
        house.again()
        house.back()
        for word, things in (("strike", ("book", 5)), ("begin", ("book", M)), ("claim", ("book", 1))):
            with self.assertRaises(DeedError):
                getattr(house, word)(*things)
        self.assertEqual(house.deeds([]), [])
        house.again()
        self.assertEqual(house.states("book"), ["holds"])
        house.ask("book", 0)
        house.settle("book")
        house.back()
        self.assertEqual(house.states("book"), ["unasked"])

    def test_deeds(self):
        house = House(size=2)
        rows = [("begin", "a", M), ("claim", "a", equation("m(x, y) = m(y, x)", M)), ("ask", "a", 0), ("settle", "a")]
        told = house.deeds(rows)
        self.assertEqual(told, [None, 0, house.known("a", 0), []])
        self.assertEqual(house.log(), [("deeds", "begun"), ("begin", "done"), ("claim", "done"), ("ask", "done"),
                                       ("settle", "done"), ("deeds", "done")])
        house.back()
        self.assertEqual(house.books(), [])
        house.again()
        self.assertEqual(house.states("a"), ["refuted"])
        before = seen_of(house)
        bad = [("begin", "b", M), ("end", "a"), ("strike", "b", 0), ("begin", "c", M)]
        self.refuses(NoNumber, house.deeds, bad)
        after = seen_of(house)
        self.assertEqual(after.pop("log")[-5:], [("deeds", "begun"), ("begin", "done"), ("end", "done"),
                                                 ("strike", "refused"), ("deeds", "refused")])
        before.pop("log")
        self.assertEqual(after, before)
        self.refuses(NoNumber, house.deeds, bad, keep=True)
        self.assertEqual(house.books(), ["b"])
        house.back()
        self.assertEqual(house.books(), ["a"])
        self.assertEqual(house.deeds([("ask", "a", 0), ("settle", "a")])[1], [])
        house.again()
        self.assertEqual(house.books(), ["b"])

    def test_no_deed(self):
        house = House()
        for row in (None, (), [], "begin", ("begin",), ("begin", "a"), ("begin", "a", M, 1), ["begin", "a", M], ("back",),
                    ("again",), ("deeds", []), ("books",), (1, 2), (("begin",), "a", M), ("kind", "a"), nested(300),
                    ([],), (None, 1)):
            for ahead in (0, 1, 2):
                rows = [("begin", "a", M), ("begin", "b", M)][:ahead] + [row, ("begin", "a", 1)]
                self.assertEqual(self.refuses(NoDeed, house.deeds, rows).at, ahead)
                self.assertEqual(house.log()[-2 - ahead:], [("deeds", "begun")] + [("begin", "done")] * ahead
                                 + [("deeds", "refused")])
                self.assertEqual(len(house), 0)
        self.assertEqual(self.refuses(NoDeed, house.deeds, [("begin", "a", M), 1], keep=True).at, 1)
        self.assertEqual(house.books(), ["a"])

    def test_own(self):
        house = one_book(LOOPS, "f(f(f(x))) = f(x)", "f(x) = x", "g(f(x)) = f(f(x))", size=2)
        house.settle("book")
        house.teach("book", completed(LOOPS, ((1, 1), (0, 1)))[1])
        house.claim("book", equation("f(g(x)) = x", LOOPS[0]))
        house.ask("book", 3)
        kept = seen_of(house)
        places = [one for told in (seen_of(house), seen_of(house)) for one in lists_in(told)]
        self.assertEqual(len(places), len({id(one) for one in places}))
        spoil(seen_of(house))
        for number in range(4):
            spoil(house.known("book", number))
            spoil(house.leaning("book", number))
        self.assertEqual(seen_of(house), kept)
        handed = house.known("book", 3)
        house.learn("book", 3, handed)
        spoil(handed)
        self.assertEqual(house.known("book", 3), kept["book"][1][3][1])
        asked = house.ask("book", 3)
        spoil(asked)
        told = house.deeds([("ask", "book", 3), ("ask", "book", 3)])
        spoil(told)
        self.assertEqual(house.known("book", 3), kept["book"][1][3][1])


class WorldTest(Checks, unittest.TestCase):
    """Long rows of deeds held against a plain world."""

    SIGNATURES = ((("f", 1), ("g", 1)), (("m", 2), ("e", 0)), (("f", 1),))

    def some_equation(self, chance, signature, word):
        if word == "claim" and chance.random() < 0.5:
            return (("deed", signature[0][0], (var("x"), var("y"))[:signature[0][1]]), var("x"))
        return tuple(some_term(chance, signature, chance.randint(1, 4), "xy") for side in range(2))

    def some_row(self, chance, world):
        title = chance.choice("aabbc")
        book = next((one for one in world.books if one["title"] == title), None)
        signature = book["signature"] if book else self.SIGNATURES[0]
        number = chance.randint(0, 3)
        word = chance.choice(["begin", "end", "put", "put", "strike", "claim", "claim", "claim", "drop", "ask", "ask", "settle",
                              "settle", "learn", "teach", "teach", "lead", "take", "take", "take", "suppose", "join"])
        if word == "end" and chance.random() < 0.7:
            word = "settle"
        if word == "begin":
            return (word, title, chance.choice(self.SIGNATURES))
        if word in ("end", "settle"):
            return (word, title)
        if word in ("put", "claim"):
            return (word, title, self.some_equation(chance, signature, word) if chance.random() < 0.9 else 7)
        if word in ("strike", "drop", "ask"):
            return (word, title, number)
        if word == "suppose":
            return (word, title, chance.randint(1, 3), chance.randint(0, 2))
        if word == "join":
            names = chance.choice([("f", "g"), ("m", "e"), ("f",), ("g",), ("a", "b")])
            return (word, chance.choice("cd"), title, chance.choice("ab"), names)
        if word in ("lead", "take"):
            target = chance.choice(world.books) if world.books else None
            other = target["title"] if target else "a"
            return (word, title, other, self.some_leading(chance, world, book, target))
        if book is None:
            return (word, title, 0, 1) if word == "learn" else (word, title, 1)
        the_kind = world.kind(book)
        if word == "teach":
            many = len(signature)
            told = completed(the_kind, ((1,) * many, tuple(chance.sample(range(many), many))), most=6, parts=8)
            return (word, title, told[1])
        if number < len(book["claims"]):
            claim = book["claims"][number][0]
            try:
                answer = answered(the_kind, claim, chance.randint(1, 2), parts=chance.randint(2, 6))
            except TooMany:
                answer = ("road", [(claim[0], None)])
            return (word, title, number, answer)
        return (word, title, number, None)

    def some_leading(self, chance, world, book, target):
        """A reading by chance, or by the same names, with roads of the axioms as read where there are some."""
        if book is None or target is None:
            return 5
        reading = []
        for name, places in book["signature"]:
            if (name, places) in target["signature"] and chance.random() < 0.8:
                reading.append(deed(name, *(var(letter) for letter in "uv"[:places])))
            else:
                reading.append(some_term(chance, target["signature"], 3, "uv"[:places] or "u"))
        roads = []
        for row in book["axioms"]:
            sides = tuple(read(book["signature"], reading, side) for side in row)
            try:
                roads.append(road_for(world.kind(target), sides))
            except DeedError:
                roads.append(None)
        return (tuple(reading), roads)

    def both(self, house, world, call):
        told = []
        for one in (house, world):
            try:
                told.append(("told", call(one)))
            except DeedError as e:
                told.append((type(e).__name__, {name: getattr(e, name) for name in vars(e)}))
        self.assertEqual(told[0], told[1])
        self.last = told[0][1]
        return told[0][0]

    def test_long_rows(self):
        met, fruitful = {}, {}
        for seed in range(40):
            chance = fixed_chance(seed)
            house, world = House(size=2, parts=5), World(size=2, parts=5)
            for title in "ab":
                signature = chance.choice(self.SIGNATURES)
                house.begin(title, signature)
                world.call("begin", title, signature)
            for step in range(120):
                luck = chance.random()
                if luck < 0.06:
                    ending = self.both(house, world, lambda one: one.back())
                    word = "back"
                elif luck < 0.1:
                    ending = self.both(house, world, lambda one: one.again())
                    word = "again"
                elif luck < 0.2:
                    rows = [self.some_row(chance, world) for n in range(chance.randint(0, 4))]
                    if chance.random() < 0.2:
                        rows.append(("begin", "a"))
                    keep = chance.random() < 0.5
                    ending = self.both(house, world, lambda one: one.deeds(rows, keep=keep))
                    word = "deeds"
                else:
                    row = self.some_row(chance, world)
                    word = row[0]
                    ending = self.both(house, world, lambda one: (
                        one.call(*row) if isinstance(one, World) else getattr(one, row[0])(*row[1:])))
                met[(word, ending)] = met.get((word, ending), 0) + 1
                if ending == "told" and house.log()[-1] == (word, "done"):
                    fruitful[word] = fruitful.get(word, 0) + bool(self.last)
                if step % 5 == 4:
                    self.assertEqual(seen_of(house), world.seen())
            self.all_right(house)
            self.begun_anew(house)
        for word in ("begin", "end", "put", "strike", "claim", "drop", "ask", "settle", "learn", "teach", "lead", "take",
                     "suppose", "join", "back", "again", "deeds"):
            self.assertGreater(met.get((word, "told"), 0), 0, (word, met))
        for word in ("put", "strike", "claim", "ask", "settle", "learn", "lead", "take", "suppose", "join", "deeds"):
            self.assertGreater(fruitful[word], 0, (word, fruitful))

    def all_right(self, house):
        for title in house.books():
            for number, claim in enumerate(house.claims(title)):
                answer = house.known(title, number)
                if answer is not None:
                    self.assertIsNone(claim_judged(house.kind(title), claim, answer))

    def begun_anew(self, house):
        """A house begun anew with the same books, claims and answers tells the same."""
        other = House(size=2, parts=5)
        for title in house.books():
            signature, axioms = house.kind(title)
            other.begin(title, signature)
            for row in axioms:
                other.put(title, row)
            for number, claim in enumerate(house.claims(title)):
                other.claim(title, claim)
                if house.known(title, number) is not None:
                    other.learn(title, number, house.known(title, number))
            if house.paper(title) is not None:
                other.teach(title, house.paper(title))
        one, two = seen_of(house), seen_of(other)
        for told in (one, two):
            told.pop("log")
            told.pop("searched")
        self.assertEqual(one, two)
        for title in house.books():
            for either in (house, other):
                either.settle(title)
            one, two = seen_of(house), seen_of(other)
            self.assertEqual(one[title], two[title])


if __name__ == "__main__":
    unittest.main()
