"""Points 1 to 3 over the whole program: names of arguments, what stays, and what one judge lets by."""

import copy
import importlib
import inspect
import itertools
import unittest

from deedworlds.answers import answered
from deedworlds.complete import complete_wrong, decided, decided_wrong, road_by
from deedworlds.completion import completed
from deedworlds.conjectures import conjectures, conjectures_judged
from deedworlds.counting import all_models
from deedworlds.errors import DeedError
from deedworlds.joined import renaming_wrong
from deedworlds.judge import claim_judged, claim_state, found_answer
from deedworlds.leadings import leading_wrong
from deedworlds.models import first_broken
from deedworlds.plain import search
from tests.helpers import Checks, deed, equation, fixed_chance, kind, lists_in, nested, some_term, spoil, term, var
from tests.ruling import one_step
from tests.test_interface import FILES

MF = (("m", 2), ("f", 1))
KIND = kind("m/2 f/1", "f(f(x)) = x", "m(x, x) = f(x)")
ROAD = [(term("f(f(x))", MF), None), (var("x"), (0, False, (), (("x", var("x")),)))]
MODEL = (2, ((0, 0, 1, 1), (0, 1)))
LEMMAS = [one_step(KIND, 0), one_step(KIND, 1)]
WEIGHING = ((1, 1), (0, 1))
PAPER = completed(kind("m/2 f/1", "f(f(x)) = x"), WEIGHING)[1]
# what is handed in by the names of arguments; of each name several, as functions ask for unlike things
SAMPLES = {
    "signature": [MF], "kind": [KIND, kind("m/2 f/1", "f(f(x)) = x")], "term": [term("f(f(m(x, x)))", MF), term("f(f(m(u, u)))", MF)],
    "equation": [equation("f(f(x)) = x", MF)], "thing": [None, ROAD, MODEL, KIND], "path": [(0,), ()],
    "one": [KIND, term("m(u, f(v))", MF), MODEL, MF, ROAD, (1, 0), (term("m(v, u)", MF), term("f(u)", MF))],
    "other": [kind("m/2 f/1 e/0"), kind("m/2 f/1", "f(f(x)) = x"), term("m(x, y)", MF), MODEL, MF, ROAD[-1:], (0, 1),
              [(var("x"), None)]],
    "putting": [{"x": var("y")}], "pattern": [term("f(x)", MF)], "text": ["f(x)", "f(x) = x", "KIND f/1", "MODEL 1\nm 0\nf 0", "(a b)"],
    "model": [MODEL], "worths": [(0,)], "chosen": [("x",)], "equations": [[equation("f(f(x)) = x", MF)]], "order": [(1, 0)],
    "size": [1, 2], "paper": [PAPER, search(KIND, 2)], "k": [0], "road": [ROAD], "number": [0], "lot": [[0]],
    "numbers": [[0]], "closed": [[0, 1]], "lead": [[0, 1]], "pairs": [[(0, 1)], [equation("f(f(x)) = x", MF)]], "join": [[0, 1]],
    "a": [0], "b": [1], "letters": [1], "name": ["f"], "rows": [((0, 1),)], "weighing": [WEIGHING], "lemmas": [LEMMAS],
    "rules": [[0]], "uses": [[(0, ())]], "first": [equation("f(f(x)) = x", MF), MF], "second": [equation("f(m(x, y)) = x", MF), MF],
    "third": [MF], "use": [(0, ())], "reading": [(term("m(v, u)", MF), term("f(u)", MF))],
    "two": [(term("m(v, u)", MF), term("u", MF))], "leading": [((term("m(u, v)", MF), term("f(u)", MF)), [ROAD])],
    "renaming": [("n", "g")], "which": [0, 1], "answer": [("road", ROAD)],
}


def outcome(function, places, names):
    try:
        return ("told", function(*places, **names))
    except DeedError as e:
        return (type(e).__name__, vars(e))


class NamesTest(Checks, unittest.TestCase):
    def all_functions(self):
        for name, listed in FILES.items():
            module = importlib.import_module(f"deedworlds.{name}")
            for one in listed.split():
                yield getattr(module, one.split("(")[0])

    def test_by_places_and_by_names(self):
        told = {}
        for function in self.all_functions():
            names = [one.name for one in inspect.signature(function).parameters.values() if one.kind is not one.KEYWORD_ONLY]
            for row in itertools.product(*[SAMPLES[name] for name in names]):
                things = list(row)
                before = copy.deepcopy(things)
                by_places = outcome(function, things, {})
                by_names = outcome(function, [], dict(reversed(list(zip(names, things)))))
                self.assertEqual(by_places, by_names, function.__name__)
                self.assertEqual(things, before, function.__name__)
                told.setdefault(function.__name__, set()).add(by_places[0])
                if by_places[0] == "told":
                    self.own_and_again(function, things, by_places[1])
        silent = [name for name, words in told.items() if "told" not in words]
        self.assertEqual(silent, [])

    def own_and_again(self, function, things, told):
        if not isinstance(told, (tuple, list, dict)):
            return
        places = [id(one) for one in lists_in(told)]
        self.assertEqual(len(places), len(set(places)), function.__name__)
        self.assertFalse(set(places) & {id(one) for one in lists_in(things)}, function.__name__)
        kept = copy.deepcopy(told)
        spoil(told)
        self.assertEqual(function(*things), kept, function.__name__)


def places_in(thing, path=()):
    yield path
    if isinstance(thing, (tuple, list)):
        for k, inner in enumerate(thing):
            yield from places_in(inner, path + (k,))


def exchanged_at(thing, path, other):
    if not path:
        return other(thing)
    rows = list(thing)
    rows[path[0]] = exchanged_at(rows[path[0]], path[1:], other)
    return tuple(rows) if isinstance(thing, tuple) else rows


class AnythingTest(Checks, unittest.TestCase):
    """Of anything a judge tells None or what is wrong; nothing else breaks."""

    ODD = (None, True, 0, -1, 7, "", "u", "var", "deed", "f", (), [], (1,), [1], ("var", "u"), ("var", []), ("deed", [], ()),
           nested(280), "road", "rules", ([], []))

    def papers(self):
        loops = kind("f/1 g/1", "f(f(x)) = g(f(x))", "g(g(x)) = x")
        paper = completed(loops, ((1, 1), (0, 1)))[1]
        claim = equation("f(f(f(x))) = f(x)", loops[0])
        answer = found_answer(loops, claim, 2, paper=paper)
        yield claim_judged, (loops, claim), answer
        yield complete_wrong, (loops,), paper
        yield decided_wrong, (loops, paper, claim), answer[2]
        yield claim_judged, (loops, claim), ("road", road_by(loops, paper, claim))
        hidden = kind("f/1", "f(f(f(x))) = x")
        asked = equation("f(x) = x", hidden[0])
        yield claim_judged, (hidden, asked), answered(hidden, asked, 2, parts=4)
        yield claim_judged, (hidden, asked), answered(hidden, asked, 3, parts=4)
        yield leading_wrong, (KIND, KIND), ((term("m(u, v)", MF), term("f(u)", MF)), [ROAD, [
            (term("m(x, x)", MF), None), (term("f(x)", MF), (1, False, (), (("x", var("x")),)))]])
        yield renaming_wrong, (MF,), ("n", "g")
        yield lambda thing: conjectures_judged(KIND, 2, thing, parts=3), (), conjectures(KIND, 2, parts=3)

    def test_by_chance(self):
        chance = fixed_chance(102)
        for function, things, right in self.papers():
            self.assertIsNone(function(*things, right))
            places = list(places_in(right))
            for k in range(300):
                odd = chance.choice((lambda thing: chance.choice(self.ODD),
                                     lambda thing: list(thing) if isinstance(thing, tuple) else (thing,),
                                     lambda thing: thing[:-1] if isinstance(thing, (tuple, list, str)) else [thing],
                                     lambda thing: thing + thing if isinstance(thing, (tuple, list)) else None))
                told = function(*things, exchanged_at(right, chance.choice(places), odd))
                self.assertTrue(told is None or (isinstance(told, tuple) and isinstance(told[0], str)))


class OneJudgeTest(Checks, unittest.TestCase):
    """Whatever answers are right for one claim, they never say holds and refuted."""

    def test_by_chance(self):
        chance = fixed_chance(101)
        kinds = (kind("f/1 g/1", "f(f(x)) = g(f(x))", "g(g(x)) = x"), kind("m/2 e/0", "m(m(x, y), z) = m(x, m(y, z))", "m(e, x) = x"),
                 kind("f/1 g/1", "f(g(f(x))) = g(x)"), kind("m/2", "m(m(x, y), m(y, z)) = y"))
        met = set()
        for the_kind in kinds:
            many = len(the_kind[0])
            paper = completed(the_kind, ((1,) * many, tuple(range(many))))[1]
            for k in range(30):
                claim = tuple(some_term(chance, the_kind[0], chance.randint(1, 6), "xy") for side in range(2))
                states = set()
                for answer in (answered(the_kind, claim, 2, parts=6), found_answer(the_kind, claim, 1, paper=paper)):
                    self.assertIsNone(claim_judged(the_kind, claim, answer))
                    states.add(claim_state(the_kind, claim, answer))
                self.assertNotEqual({"holds", "refuted"} & states, {"holds", "refuted"})
                met |= states
                if decided(the_kind, paper, claim)[0] == "holds":
                    self.assertIsNone(claim_judged(the_kind, claim, ("road", road_by(the_kind, paper, claim))))
                    for size in (1, 2):
                        for model in all_models(the_kind, size):
                            self.assertIsNone(first_broken((the_kind[0], (claim,)), model))
        self.assertLessEqual({"holds", "refuted"}, met)

    def test_terms_are_told_as_they_are(self):
        self.assertEqual(term("m(f(x), y)", MF), deed("m", deed("f", var("x")), var("y")))


if __name__ == "__main__":
    unittest.main()
