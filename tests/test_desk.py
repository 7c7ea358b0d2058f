"""The desk: points 51 to 53."""

import unittest

from deedworlds.answers import answered
from deedworlds.completion import completed
from deedworlds.counting import all_models, how_many, spectrum
from deedworlds.desk import Desk
from deedworlds.errors import (
    NoAnswer, NoBack, NoFit, NoLeading, NoLine, NoNumber, NoPaper, NoRenaming, NoSize, NoText, NoTitle, TooMany,
)
from deedworlds.judge import claim_judged
from deedworlds.leaning import all_leaned, least_lots
from deedworlds.papertexts import paper_text, read_paper
from deedworlds.texts import equation_text, kind_text
from tests.helpers import Checks, deed, equation, kind, nested, var

M = (("m", 2), ("e", 0))
LOOPS = kind("f/1 g/1", "f(f(x)) = g(f(x))", "g(g(x)) = x")
MONOID = kind("m/2 e/0", "m(m(x, y), z) = m(x, m(y, z))", "m(e, x) = x")


def desk_of(*lines, **bounds):
    desk = Desk(**bounds)
    for line in lines:
        desk.say(line)
    return desk


def monoid_desk(**bounds):
    return desk_of("begin mon m/2 e/0", "put mon m(m(x, y), z) = m(x, m(y, z))", "put mon m(e, x) = x",
                   "claim mon m(m(e, e), x) = x", "claim mon m(x, y) = m(y, x)", **bounds)


class SaidTest(Checks, unittest.TestCase):
    def test_bounds(self):
        for size in (0, 7, True, None, nested(300)):
            self.refuses(NoSize, Desk, size=size, parts=0)
        for parts in (0, 61, True, None):
            self.refuses(NoNumber, Desk, parts=parts)
        desk = monoid_desk(size=2, parts=3)
        self.assertEqual(desk.say("ask mon 1"), "refuted")
        claim = equation("m(x, y) = m(y, x)", M)
        self.assertEqual(read_paper(desk.say("known mon 1")), answered(MONOID, claim, 2, parts=3))

    def test_deeds(self):
        desk = Desk(size=3)
        for text, answer in (("begin mon m/2 e/0", "ok"), ("put mon m(e, x) = x", "none"), ("put mon m(x, e) = x", "none"),
                             ("claim mon m(e, e) = e", "0"), ("claim mon m(x, y) = m(y, x)", "1"), ("ask mon 1", "refuted"),
                             ("ask mon 1", "refuted"), ("settle mon", "0"), ("settle mon", "none"),
                             ("put mon m(x, y) = m(y, x)", "1"), ("back", "ok"), ("again", "ok"), ("ask mon 1", "holds"),
                             ("claim mon m(x, x) = x", "2"), ("ask mon 2", "refuted"), ("strike mon 2", "1"),
                             ("drop mon 1", "ok"), ("states mon", "holds refuted"), ("books", "mon"),
                             ("suppose mon 2 1", "none"), ("begin two f/1", "ok"), ("books", "mon two"), ("end two", "ok"),
                             ("books", "mon"), ("show mon", "KIND m/2 e/0\nm(e, x) = x\nm(x, e) = x"),
                             ("claims mon", "m(e, e) = e\nm(x, x) = x"), ("end mon", "ok"), ("books", "")):
            self.assertEqual(desk.say(text), answer, text)
        self.assertEqual(len(read_paper(desk.say("log"))), 21)
        self.assertEqual(len(read_paper(desk.say("searched"))), 4)

    def test_titles_that_are_words(self):
        desk = desk_of("begin no f/1", "begin none f/1", "claim no x = x", "ask no 0")
        self.assertEqual([desk.say(text) for text in ("books", "states no", "states none", "join yes no none (f)", "states yes")],
                         ["no none", "holds", "", "0", "holds"])

    def test_empty_ones(self):
        desk = desk_of("begin a f/1")
        self.assertEqual([desk.say(text) for text in ("states a", "claims a", "show a", "paper a", "searched", "settle a")],
                         ["", "", "KIND f/1", "none", "[]", "none"])
        self.assertEqual(Desk().say("log"), "[]")
        self.assertEqual(Desk().say("books"), "")

    def test_learn_and_judge(self):
        desk = monoid_desk(size=2)
        claims = [equation("m(m(e, e), x) = x", M), equation("m(x, y) = m(y, x)", M)]
        for number, claim in enumerate(claims):
            answer = answered(MONOID, claim, 2)
            text = paper_text(answer)
            self.assertEqual(desk.say(f"judge mon {number} {text}"), "yes")
            self.assertEqual(desk.say(f"learn mon {number} {text}"), ("holds", "refuted")[number])
            self.assertEqual(desk.say(f"known mon {number}"), text)
        for thing in (None, (), ("road", []), answered(MONOID, claims[1], 2), ("rules", 1, 2), {"a": [1]}, "road", -5):
            wrong = claim_judged(MONOID, claims[0], thing)
            self.assertEqual(desk.say(f"judge mon 0 {paper_text(thing)}"), f"no {paper_text(wrong)}")
            told = self.refuses(NoAnswer, desk.say, f"learn mon 0 {paper_text(thing)}")
            self.assertEqual(told.wrong, wrong)
        self.assertEqual(desk.say("leaning mon 0"), "[1]")
        self.assertEqual(desk.say("leaning mon 1"), "none")
        for text in ("judge mon 2 none", "judge mon 999999999999 none", "learn mon 2 none", "known mon 2", "leaning mon 2",
                     "ask mon 2", "drop mon 2", "strike mon 2"):
            self.refuses(NoNumber, desk.say, text)

    def test_teach(self):
        desk = desk_of("begin l f/1 g/1", "put l f(f(x)) = g(f(x))", "put l g(g(x)) = x", "claim l f(f(f(x))) = f(x)")
        paper = completed(LOOPS, ((1, 1), (0, 1)))[1]
        self.assertEqual(desk.say(f"teach l {paper_text(paper)}"), "ok")
        self.assertEqual(desk.say("paper l"), paper_text(paper))
        self.assertEqual(desk.say("ask l 0"), "holds")
        self.assertEqual(read_paper(desk.say("known l 0"))[0], "rules")
        self.assertEqual(self.refuses(NoPaper, desk.say, "teach l (a b)").wrong, ("paper",))

    def test_asked_of_kinds(self):
        desk = monoid_desk(size=2, parts=4)
        for size in (1, 2):
            for text, told in ((f"found mon {size}", all_models(MONOID, size)), (f"many mon {size}", how_many(MONOID, size)),
                               (f"spectrum mon {size}", spectrum(MONOID, most=size)),
                               (f"leaned mon {size}", all_leaned(MONOID, size, parts=4)),
                               (f"lots mon {size}", least_lots(MONOID, size)),
                               (f"answer mon {size} m(x, x) = x",
                                answered(MONOID, equation("m(x, x) = x", M), size, parts=4))):
                self.assertEqual(desk.say(text), paper_text(told))
        for word in ("found", "many", "spectrum", "leaned", "lots"):
            self.refuses(NoSize, desk.say, f"{word} mon 0")
            self.refuses(NoSize, desk.say, f"{word} mon 7")
        self.refuses(NoSize, desk.say, "answer mon 0 e = x")
        self.refuses(TooMany, desk.say, "found mon 6")
        self.assertEqual(desk.say("show mon"), kind_text(MONOID))
        self.assertEqual(desk.say("claims mon").split("\n")[1], equation_text(M, equation("m(x, y) = m(y, x)", M)))

    def test_lead_take_join(self):
        desk = desk_of("begin a f/1", "put a f(f(x)) = f(x)", "claim a f(f(f(x))) = f(x)", "claim a f(x) = x", "begin b g/1",
                       "put b g(g(x)) = g(x)", "claim b g(x) = x", size=2)
        desk.say("ask a 0")
        desk.say("ask b 0")
        road = [(deed("g", deed("g", var("x"))), None), (deed("g", var("x")), (0, False, (), (("x", var("x")),)))]
        leading = paper_text(((deed("g", var("u")),), [road]))
        self.assertEqual(desk.say(f"lead a b {leading}"), "1")
        self.assertEqual(desk.say(f"lead a b {leading}"), "none")
        self.assertEqual(desk.say(f"take a b {leading}"), "1")
        self.assertEqual(desk.say("states a"), "holds refuted")
        self.assertEqual(self.refuses(NoLeading, desk.say, "take a b (1 2)").wrong, ("reading", ("reading",)))
        self.assertEqual(desk.say("join c a b (f)"), "0 1")
        self.assertEqual(desk.say("states c"), "holds refuted")
        self.assertEqual(desk.say("join d a b (h)"), "0 3")
        self.refuses(NoRenaming, desk.say, "join e a b (h h)")
        self.refuses(NoRenaming, desk.say, "join e a b h")
        self.assertEqual(desk.say("begin m f/0"), "ok")
        self.assertEqual(self.refuses(NoFit, desk.say, "join e a m (f)").name, "f")
        self.assertEqual(desk.say("books"), "a b c d m")
        self.assertEqual(desk.say("suppose m 1 1"), "none")
        self.assertEqual(desk_of("begin one f/1", "put one x = y", size=1).say("suppose one 1 2"), "0")


class RefusedTest(Checks, unittest.TestCase):
    def test_no_line(self):
        desk = monoid_desk()
        before = desk.say("log")
        for text in ("", " ", "begin", "begin a", "begin a ", "beginn a m/2", "Begin a m/2", " begin a m/2", "end", "end mon ",
                     "end  mon", "end mon mon", "back ", "back mon", "again ", "drop mon", "drop mon 0 ", "drop mon 0 0",
                     "drop  mon 0", "put mon", "put mon ", "put", "strike mon", "settle", "settle mon ", "lead mon mon",
                     "lead mon mon ", "take mon", "suppose mon 1", "suppose mon 1 1 ", "suppose mon 1 1 1", "join a mon mon",
                     "join a mon mon ", "claim mon", "claim mon ", "learn mon 0", "learn mon 0 ", "ask mon", "ask mon 0 0",
                     "known mon", "leaning mon", "paper", "paper mon ", "searched ", "log ", "log 1", "found mon", "many mon",
                     "spectrum mon", "leaned mon", "lots mon", "answer mon 1", "answer mon 1 ", "books ", "books mon",
                     "states", "states mon ", "show", "claims", "judge mon 0", "judge mon 0 ", "teach mon", "teach mon ",
                     "end mon\n", "\nend mon", "put mon m(e, x) =\n x", "say mon", "log\n", "found mon 2\n", "show mon\n"):
            self.refuses(NoLine, desk.say, text)
        self.assertEqual(desk.say("log"), before)

    def test_titles(self):
        desk = monoid_desk()
        desk.say("begin b f/1")
        before = desk.say("log"), desk.say("searched")
        for text in ("begin mon x", "begin Mon m/2", "begin  m/2", "begin abcdefghi m/2", "begin m1 m/2", "end none", "end ",
                     "drop none x", "drop  x", "put none x", "strike none 00", "settle none", "lead none mon (", "lead mon none (",
                     "lead mon  (", "take none none (", "suppose none 01 x", "join mon b b (", "join a none b (", "join a b none (",
                     "join A none none (", "claim none x", "learn none x (", "ask none x", "known none x", "leaning none x",
                     "paper none", "found none x", "many none x", "spectrum none x", "leaned none x", "lots none x",
                     "answer none x x", "states none", "show none", "claims none", "judge none x (", "teach none ("):
            self.refuses(NoTitle, desk.say, text)
        self.assertEqual((desk.say("log"), desk.say("searched")), before)

    def test_numbers(self):
        desk = monoid_desk()
        before = desk.say("log"), desk.say("searched")
        for number in ("", "00", "01", "-1", "+1", "1x", "x", "0x1", "1234567890123", "1.0", "one"):
            for form in ("drop mon {}", "strike mon {}", "ask mon {}", "known mon {}", "leaning mon {}", "found mon {}",
                         "many mon {}", "spectrum mon {}", "leaned mon {}", "lots mon {}", "suppose mon {} 1", "suppose mon 1 {}",
                         "learn mon {} (", "answer mon {} =", "judge mon {} ("):
                self.refuses(NoNumber, desk.say, form.format(number))
        self.assertEqual((desk.say("log"), desk.say("searched")), before)
        self.refuses(NoNumber, desk.say, "drop mon 123456789012")
        self.assertEqual(read_paper(desk.say("log"))[-1], ("drop", "refused"))

    def test_texts(self):
        desk = monoid_desk()
        before = desk.say("log"), desk.say("searched")
        for text, at in (("begin a x/2", 5), ("begin a m/3", 7), ("begin a m/2 m/1", 10), ("begin a  m/2", 5), ("begin a m/2 ", 9),
                         ("begin a m", 6), ("begin a KIND m/2", 5), ("put mon m(e, x) = ", 10), ("put mon  m(e, x) = x", 0),
                         ("put mon m(e, x) = x ", 11), ("claim mon m(e)", 3), ("claim mon x", 1), ("answer mon 99 m(e)", 3),
                         ("answer mon 1  x = x", 0), ("learn mon 99 (", 1), ("learn mon 0 ((a) (a))", 7), ("judge mon 99 #0", 1),
                         ("teach mon  (", 0), ("teach mon none ", 4), ("lead mon mon (a", 2), ("take mon mon )", 0),
                         ("join a mon mon (m  e)", 3)):
            self.breaks_at(0, at, desk.say, text)
        self.assertEqual((desk.say("log"), desk.say("searched")), before)

    def test_by_the_house(self):
        desk = Desk()
        self.refuses(NoBack, desk.say, "back")
        self.refuses(NoBack, desk.say, "again")
        self.assertEqual(desk.say("log"), '[(back refused) (again refused)]')
        for k in range(8):
            desk.say(f"begin {'abcdefgh'[k]} f/1")
        self.refuses(TooMany, desk.say, "begin i f/1")
        self.assertEqual(read_paper(desk.say("log"))[-1], ("begin", "refused"))
        for k in range(16):
            self.assertEqual(desk.say("claim a x = y"), str(k))
        self.refuses(TooMany, desk.say, "claim a x = y")
        self.refuses(NoNumber, desk.say, "suppose a 6 1")
        self.refuses(NoNumber, desk.say, "suppose a 1 3")
        wide = desk_of("begin m m/2", "put m m(x, y) = m(y, x)", "claim m m(m(x, y), z) = m(z, m(y, x))", size=6, parts=3)
        self.refuses(TooMany, wide.say, "ask m 0")
        self.assertEqual(len(read_paper(wide.say("searched"))), 1)
        self.assertEqual(wide.say("settle m"), "none")
        self.assertEqual(len(read_paper(wide.say("searched"))), 2)

    def test_error_bears(self):
        told = self.refuses(NoText, Desk().say, "begin a m/2 q r/2")
        self.assertEqual((told.row, told.at), (0, 10))


if __name__ == "__main__":
    unittest.main()
