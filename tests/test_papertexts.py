"""Papers as texts: point 50."""

import copy
import string
import unittest

from deedworlds.answers import answered
from deedworlds.completion import completed
from deedworlds.errors import NoNumber, TooDeep
from deedworlds.papertexts import MOST_DEEP, paper_text, read_paper
from tests.helpers import Checks, equation, fixed_chance, kind, lists_in, nested

SIGNS = "\n" + "".join(chr(k) for k in range(32, 127))


class Broken(Exception):
    """The text breaks off here."""


def same_form(thing):
    """A text that tells things that are the same from others."""
    if isinstance(thing, dict):
        return "{" + ",".join(f"{key!r}:{same_form(thing[key])}" for key in sorted(thing)) + "}"
    return repr(thing) if not isinstance(thing, (tuple, list)) else \
        f"{type(thing).__name__}[{','.join(map(same_form, thing))}]"


def depth(thing):
    if isinstance(thing, dict):
        thing = list(thing.values())
    return 1 + max(map(depth, thing), default=0) if isinstance(thing, (tuple, list)) else 0


def write(thing, met=None):
    """What is written of a thing, by the words of the point."""
    met = {} if met is None else met
    if thing is None or thing is True or thing is False:
        return {None: "none", True: "yes", False: "no"}[thing]
    if isinstance(thing, int):
        return str(thing)
    if isinstance(thing, str):
        if thing and set(thing) <= set(string.ascii_lowercase) and thing not in ("none", "yes", "no"):
            return thing
        return '"' + "".join({'"': '^"', "^": "^^", "\n": "^n"}.get(sign, sign) for sign in thing) + '"'
    if same_form(thing) in met:
        return f"#{met[same_form(thing)]}"
    if isinstance(thing, dict):
        told = "{" + " ".join(f"{write(key)}:{write(thing[key], met)}" for key in sorted(thing)) + "}"
    else:
        inside = " ".join(write(one, met) for one in thing)
        told = f"({inside})" if isinstance(thing, tuple) else f"[{inside}]"
    if thing:
        met[same_form(thing)] = len(met)
    return told


class Parser:
    """A reader that goes down by calls of its own."""

    def __init__(self, text, deep):
        self.text, self.at, self.deep, self.wholes = text, 0, deep, []

    def told(self):
        """("thing", thing), or ("at", how many signs are right)."""
        try:
            thing = self.value(0)
            return ("thing", thing) if self.at == len(self.text) else ("at", self.at)
        except Broken as e:
            return ("at", e.args[0])

    def sign(self):
        return self.text[self.at] if self.at < len(self.text) else None

    def want(self, signs):
        if self.sign() is None or self.sign() not in signs:
            raise Broken(self.at)
        self.at += 1
        return self.text[self.at - 1]

    def run(self, signs):
        begin = self.at
        while self.sign() is not None and self.sign() in signs:
            self.at += 1
        return self.text[begin:self.at]

    def value(self, above):
        sign = self.sign()
        if sign is None:
            raise Broken(self.at)
        if sign in "([{":
            return self.many(above)
        if sign == "#":
            return self.marked(above)
        if sign == '"':
            return self.between()
        if sign in string.ascii_lowercase:
            word = self.run(string.ascii_lowercase)
            return {"none": None, "yes": True, "no": False}.get(word, word)
        begin = self.at
        if sign == "-":
            self.at += 1
            if self.sign() is None or self.sign() not in "123456789":
                raise Broken(self.at)
        first = self.want(string.digits)
        for k in range(29):
            if first != "0" and self.sign() is not None and self.sign() in string.digits:
                self.at += 1
        return int(self.text[begin:self.at])

    def marked(self, above):
        mark = self.at
        self.at += 1
        begin = self.at
        if self.sign() is None or self.sign() not in string.digits:
            raise Broken(self.at)
        number = self.want("0") if self.sign() == "0" else self.run(string.digits)
        if int(number[:20]) >= len(self.wholes):
            raise Broken(begin)
        thing = self.wholes[int(number)]
        if above + depth(thing) > self.deep:
            raise Broken(mark)
        return copy.deepcopy(thing)

    def between(self):
        begin = self.at
        self.at += 1
        told = ""
        while self.sign() != '"':
            if self.sign() == "^":
                self.at += 1
                told += {'"': '"', "^": "^", "n": "\n"}[self.want('"^n')]
            else:
                told += self.want(SIGNS[1:])
        if write(told) == told:
            raise Broken(begin)
        self.at += 1
        return told

    def key(self, keys):
        begin = self.at
        bare = self.sign() != '"'
        key = self.run(string.ascii_lowercase) if bare else self.between()
        if bare and not key:
            raise Broken(begin)
        if keys and key <= keys[-1]:
            raise Broken(begin)
        if bare and key in ("none", "yes", "no"):
            raise Broken(self.at)
        self.want(":")
        return key

    def many(self, above):
        if above + 1 > self.deep:
            raise Broken(self.at)
        begin = self.want("([{")
        end = {"(": ")", "[": "]", "{": "}"}[begin]
        told, keys = [], []
        if self.sign() == end:
            self.at += 1
            return {"(": (), "[": [], "{": {}}[begin]
        while True:
            if begin == "{":
                keys.append(self.key(keys))
            told.append(self.value(above + 1))
            if self.sign() == end:
                break
            self.want(" ")
        thing = {"(": tuple, "[": list, "{": lambda inner: dict(zip(keys, inner))}[begin](told)
        if same_form(thing) in map(same_form, self.wholes):
            raise Broken(self.at)
        self.at += 1
        self.wholes.append(thing)
        return thing


def some_thing(chance, most):
    """A thing of few parts, so that some stand again."""
    kind_of = chance.random()
    if most <= 1 or kind_of < 0.25:
        if chance.random() < 0.7:
            return chance.choice([1, "a"])
        return chance.choice([None, True, False, 0, 1, -1, 12, "a", "b", "none", "", "x y", 'q"^', "\n", "yes", "A"])
    inner = [some_thing(chance, most // 2) for k in range(chance.choice((0, 1, 1, 2, 2, 3)))]
    if kind_of < 0.6:
        return tuple(inner)
    if kind_of < 0.8:
        return inner
    return dict(zip(chance.sample(["a", "b", "", "no", "c d", "zz"], len(inner)), inner))


class WrittenTest(Checks, unittest.TestCase):
    def both(self, thing, text):
        self.assertEqual(paper_text(thing), text)
        told = read_paper(text)
        self.assertEqual(same_form(told), same_form(thing))

    def test_each_kind(self):
        for thing, text in ((None, "none"), (True, "yes"), (False, "no"), (0, "0"), (-1, "-1"), (10 ** 30 - 1, "9" * 30),
                            (1 - 10 ** 30, "-" + "9" * 30), ("a", "a"), ("none", '"none"'), ("yes", '"yes"'), ("no", '"no"'),
                            ("", '""'), ("nones", "nones"), ("A", '"A"'), ("a b", '"a b"'), ('"', '"^""'), ("^", '"^^"'),
                            ("\n", '"^n"'), ("^n", '"^^n"'), ('a"^\nb', '"a^"^^^nb"'), ("1", '"1"'), ("#0", '"#0"'), ((), "()"),
                            ([], "[]"), ({}, "{}"), ((1,), "(1)"), ([1, "a"], "[1 a]"), ({"b": 2, "a": 1}, "{a:1 b:2}"),
                            ({"": 1, "a": 2, "none": 3, "\n": 4, " ": 5, "~": 6},
                             '{"":1 "^n":4 " ":5 a:2 "none":3 "~":6}'),
                            ((("a", "b"), ("a", "b"), [("a", "b")]), "((a b) #0 [#0])")):
            self.both(thing, text)

    def test_whole_ones(self):
        pair = ("a", "b")
        self.both([pair, [pair], [pair], (pair,)], "[(a b) [#0] #1 (#0)]")
        self.both([(), [], {}, (), [], {}], "[() [] {} () [] {}]")
        self.both(((1,), (True,), [1], {"a": (1,)}, ("1",)), '((1) (yes) [1] {a:#0} ("1"))')
        self.both([((1,), 2), (1,), ((1,), 2)], "[((1) 2) #0 #1]")
        self.both({"a": {"x": [1]}, "b": {"x": [1]}, "c": [1]}, "{a:{x:[1]} b:#1 c:#0}")
        self.both([(k,) for k in range(12)] + [(11,), (10,), (1,)],
                  "[" + " ".join(f"({k})" for k in range(12)) + " #11 #10 #1]")

    def test_by_chance(self):
        chance = fixed_chance(91)
        again = 0
        for k in range(800):
            thing = some_thing(chance, 40) if k % 2 else [some_thing(chance, 8) for n in range(6)]
            text = paper_text(thing)
            self.assertEqual(text, write(thing))
            again += "#" in text
            told = read_paper(text)
            self.assertEqual(same_form(told), same_form(thing))
            lists = [id(one) for one in lists_in(told)]
            self.assertEqual(len(lists), len(set(lists)))
        self.assertGreater(again, 60)

    def test_papers(self):
        loops = kind("f/1 g/1", "f(f(x)) = g(f(x))", "g(g(x)) = x")
        for thing in (completed(loops, ((1, 1), (0, 1))), answered(loops, equation("f(x) = x", loops[0]), 2),
                      answered(kind("m/2", "m(x, y) = m(y, x)"), equation("m(x, x) = x", (("m", 2),)), 1, parts=3)):
            self.both(thing, write(thing))
            self.own(read_paper, paper_text(thing))
            self.own(paper_text, thing)

    def test_order_of_keys(self):
        self.assertEqual(paper_text({"b": 1, "a": 2}), paper_text({"a": 2, "b": 1}))
        self.assertEqual(list(read_paper("{a:1 b:2}")), ["a", "b"])

    def test_deep(self):
        for many in (0, 1, 2, 299, 300):
            thing = nested(many)
            self.assertEqual(read_paper(paper_text(thing, deep=many), deep=many), thing)
            self.assertEqual(read_paper(paper_text(thing)), thing)
            if many:
                with self.assertRaises(TooDeep):
                    paper_text(thing, deep=many - 1)
                self.breaks_at(0, many - 1, lambda text: read_paper(text, deep=many - 1), paper_text(thing))
        for many in (301, 2000):
            with self.assertRaises(TooDeep):
                paper_text(nested(many))
        self.breaks_at(0, 300, read_paper, "(" * 301 + ")" * 301)
        self.breaks_at(0, 300, read_paper, "(" * 5000)
        self.refuses(TooDeep, paper_text, [], deep=0)
        self.assertEqual(paper_text((), deep=1), "()")
        # an empty one counts one, also where it is written by #
        self.assertEqual(read_paper("[(()) #0]", deep=3), [((),), ((),)])
        self.assertEqual(paper_text([((),), ((),)], deep=3), "[(()) #0]")
        self.breaks_at(0, 2, lambda text: read_paper(text, deep=2), "[(()) #0]")
        # those that are written by # count too
        thing = [[[1]], [[[1]]]]
        self.assertEqual(paper_text(thing, deep=4), "[[[1]] [#1]]")
        self.refuses(TooDeep, paper_text, thing, deep=3)
        self.breaks_at(0, 8, lambda text: read_paper(text, deep=3), "[[[1]] [#1]]")
        self.breaks_at(0, 10, lambda text: read_paper(text, deep=2), "[[1] [1 a [#9]]]")
        self.breaks_at(0, 7, lambda text: read_paper(text, deep=2), "[[1] [#7]]")

    def test_bounds(self):
        self.assertEqual(MOST_DEEP, 300)
        for deep in (-1, 301, True, False, None, "3", [3], nested(300)):
            with self.assertRaises(NoNumber):
                paper_text(nested(400), deep=deep)
            self.refuses(NoNumber, read_paper, "((", deep=deep)


class BrokenTest(Checks, unittest.TestCase):
    def test_told_ones(self):
        for text, at in (("", 0), (" ", 0), ("(", 1), ("(a", 2), ("(a ", 3), ("(a b)x", 5), ("(a b) ", 5), ("( a)", 1), ("(a  b)", 3),
                         ("(a )", 3), ("(a]", 2), (")", 0), ("(]", 1), ("((a b) (a b))", 11), ("((a b) (a b", 11), ("#", 1),
                         ("#x", 1), ("(#", 2), ("(#)", 2), ("((1) #)", 6), ("#0", 1), ("(#0)", 2), ("((a) #1)", 6),
                         ("((a) #01)", 7), ("((a) #0", 7), ("((a) #10)", 6), ("((a) #" + "9" * 6000 + ")", 6), ("{b:1 a", 5),
                         ("{b:1 b", 5), ("{b:1 ba", 7), ("{b:1 b:1}", 5), ("{none", 5), ("{none:1}", 5), ("{no:1}", 3),
                         ("{b:1 none:2}", 9), ("{z:1 none:2}", 5), ("{b:1 \"a\":2}", 5), ('{b:1 "A":2}', 5), ('{b:1 "A', 7),
                         ('{b:1 "~":2}', 11), ('"abc"', 0), ('("abc")', 1), ('"abc', 4), ('"none"', None), ('{"abc":1}', 1),
                         ('"^x"', 2), ('"^', 2), ('"a\n"', 2), ("\n", 0), ("a\n", 1), ("A", 0), ("aB", 1), ("-", 1), ("-0", 1),
                         ("-a", 1), ("01", 1), ("1a", 1), ("9" * 31, 30), ("-" + "9" * 31, 31), ("{", 1), ("{a", 2), ("{a:", 3),
                         ("{a 1}", 2), ("{a:1", 4), ("{a:1 ", 5), ("{a:1 }", 5), ("{a:1]", 4), ("{1:1}", 1), ("{(", 1), ("{:1}", 1),
                         ("{a::1}", 3), ("[{a:1} {a:1}]", 11), ("nonea", None), ("yes", None), ("yesno", None), ("~", 0)):
            if text == '{b:1 "~":2}' or at is None:
                read_paper(text)
            else:
                self.breaks_at(0, at, read_paper, text)

    def test_by_chance(self):
        chance = fixed_chance(92)
        met = {"thing": 0, "at": 0}
        for k in range(6000):
            text = write(some_thing(chance, 30) if k % 2 else [some_thing(chance, 8) for n in range(5)])
            for change in range(chance.randint(0, 2)):
                at = chance.randint(0, len(text))
                piece = chance.choice(['"', "^", "#", "0", "1", " ", "(", ")", "[", "]", "{", "}", ":", "a", "b", "none", "-",
                                       "\n", "#0", "#1", "", "(a)", "{a:1}"])
                text = text[:at] + piece + text[at + chance.randint(0, 2):]
            deep = chance.choice((300, 300, 2, 3, 1))
            told = Parser(text, deep).told()
            met[told[0]] += 1
            if told[0] == "thing":
                self.assertEqual(same_form(read_paper(text, deep=deep)), same_form(told[1]))
                self.assertEqual(paper_text(told[1], deep=deep), text)
            else:
                self.breaks_at(0, told[1], lambda one: read_paper(one, deep=deep), text)
        self.assertGreater(min(met.values()), 1000)

    def test_each_beginning(self):
        chance = fixed_chance(93)
        for k in range(60):
            text = write(some_thing(chance, 40))
            for many in range(len(text)):
                told = Parser(text[:many], 300).told()
                if told[0] == "at":
                    self.breaks_at(0, told[1], read_paper, text[:many])


if __name__ == "__main__":
    unittest.main()
