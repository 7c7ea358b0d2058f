"""Points 35 and 36: closed lists, parts, and builds."""

import itertools
import unittest

from deedworlds.errors import NoClosed, NoModel, NoNumbers, NoSignature
from deedworlds.parts import build, build_judged, closed_lists, made_by, part
from tests.helpers import MFE, Checks, fixed_chance, nested, some_model

F = (("f", 1),)
MC = (("m", 2), ("c", 0), ("d", 0))
M2 = (("m", 2),)
SIGNATURES = [F, MC, M2, MFE, (("c", 0),), (("f", 1), ("g", 1), ("e", 0))]
# 0 and 1 are made of one another, 2 of itself, 3 goes to 2
WALK = (4, ((1, 0, 2, 2),))
NO_NUMBERS = [None, True, 0, "0", (), (0,), [4], [-1], [True], [False], ["0"], [None], [0, [1]], [10 ** 29],
              nested(300), [nested(299)]]


def cells(signature, model):
    size, tables = model
    for (name, places), table in zip(signature, tables):
        for args, worth in zip(itertools.product(range(size), repeat=places), table):
            yield name, args, worth


def is_closed(signature, model, numbers):
    return all(worth in numbers for name, args, worth in cells(signature, model) if set(args) <= set(numbers))


def all_lists(size):
    return sorted(list(row) for many in range(size + 1) for row in itertools.combinations(range(size), many))


def some_models(seed, many=40):
    chance = fixed_chance(seed)
    for step in range(many):
        signature = chance.choice(SIGNATURES)
        yield chance, signature, some_model(chance, signature, chance.randrange(1, 7))


class ClosedTest(Checks, unittest.TestCase):
    def test_ordinary_ones(self):
        self.assertEqual(closed_lists(signature=F, model=WALK), [
            [], [0, 1], [0, 1, 2], [0, 1, 2, 3], [2], [2, 3]])
        self.assertEqual(made_by(signature=F, model=WALK, numbers=[3]), [2, 3])
        self.assertEqual(made_by(F, WALK, [1]), [0, 1])
        self.assertEqual(made_by(F, WALK, []), [])
        self.assertEqual(made_by(F, WALK, [3, 1, 3, 3]), [0, 1, 2, 3])
        self.assertEqual(closed_lists((("c", 0),), (3, ((1,),))), [[0, 1], [0, 1, 2], [1], [1, 2]])
        self.assertEqual(made_by((("c", 0),), (3, ((1,),)), []), [1])

    def test_against_all_lists(self):
        for chance, signature, model in some_models(37):
            lists = [one for one in all_lists(model[0]) if is_closed(signature, model, one)]
            self.assertEqual(closed_lists(signature, model), lists)
            self.assertEqual([] in lists, all(places for name, places in signature))
            for many in range(4):
                numbers = [chance.randrange(model[0]) for k in range(many)]
                least = min((one for one in lists if set(numbers) <= set(one)), key=len)
                self.assertEqual(made_by(signature, model, numbers), least)

    def test_part(self):
        self.assertEqual(part(signature=F, model=WALK, closed=[2, 3]), (2, ((0, 0),)))
        self.assertEqual(part(F, WALK, [0, 1, 2, 3]), WALK)
        for chance, signature, model in some_models(38):
            for closed in all_lists(model[0]):
                if closed and is_closed(signature, model, closed):
                    told = part(signature, model, closed)
                    self.assertEqual(told[0], len(closed))
                    whole = {(name, args): worth for name, args, worth in cells(signature, model)}
                    for name, args, worth in cells(signature, told):
                        there = whole[(name, tuple(closed[arg] for arg in args))]
                        self.assertEqual(closed[worth], there)
                else:
                    self.refuses(NoClosed, part, signature, model, closed)

    def test_no_closed(self):
        for thing in NO_NUMBERS + [[], [0], [1, 0], [0, 0, 1], [0, 1, 1], [2, 3, 0, 1], (2,), (0, 1)]:
            self.refuses(NoClosed, part, F, WALK, thing)
        self.refuses(NoClosed, part, F, (1, ((0,),)), [False])

    def test_no_numbers(self):
        for thing in NO_NUMBERS:
            self.refuses(NoNumbers, made_by, F, WALK, thing)
            self.refuses(NoNumbers, build, F, WALK, thing)
            self.refuses(NoNumbers, build_judged, F, WALK, thing, None)

    def test_signature_and_model_first(self):
        for function, more in [(made_by, (None,)), (closed_lists, ()), (part, (None,)), (build, (None,)),
                               (build_judged, (None, None))]:
            self.refuses(NoSignature, function, None, None, *more)
            for thing in [None, (4, ((1, 0, 2, 4),)), (4, ()), [4, ((1, 0, 2, 2),)], (True, ((0,),)), nested(300)]:
                self.refuses(NoModel, function, F, thing, *more)

    def test_told_lists_are_own(self):
        self.own(made_by, F, WALK, [3, 1])
        self.own(closed_lists, F, WALK)
        self.own(part, F, WALK, [2, 3])
        self.own(build, F, WALK, [3, 1])
        self.own(build_judged, F, WALK, [3, 1], build(F, WALK, [3, 1]))


class BuildTest(Checks, unittest.TestCase):
    plus = (3, ((0, 1, 2, 1, 2, 0, 2, 0, 1), (0,), (0,)))

    def judged(self, numbers, thing, wanted, signature=F, model=WALK):
        self.assertEqual(build_judged(signature=signature, model=model, numbers=numbers, thing=thing), wanted, thing)

    def test_told_builds(self):
        for chance, signature, model in some_models(39, 80):
            numbers = [chance.randrange(model[0]) for k in range(chance.randrange(4))]
            told = build(signature=signature, model=model, numbers=numbers)
            self.judged(numbers, told, None, signature, model)
            self.assertEqual(sorted(number for number, reason in told), made_by(signature, model, numbers))
            self.judged_spoilt(chance, signature, model, numbers, told)

    def judged_spoilt(self, chance, signature, model, numbers, told):
        """Steps left out, told twice, exchanged and by other cells, against the words of the document."""
        for step in range(12):
            thing = list(told)
            if thing:
                k, other = chance.randrange(len(thing)), chance.randrange(len(thing))
                way = chance.randrange(4)
                if way == 0:
                    del thing[k]
                elif way == 1:
                    thing.insert(other, thing[k])
                elif way == 2:
                    thing[k], thing[other] = thing[other], thing[k]
                else:
                    name, places = chance.choice(signature)
                    args = tuple(chance.randrange(model[0]) for place in range(places))
                    thing[k] = (thing[k][0], (name, args))
            self.judged(numbers, thing, self.by_words(signature, model, numbers, thing), signature, model)

    def by_words(self, signature, model, numbers, thing):
        whole = {(name, args): worth for name, args, worth in cells(signature, model)}
        told = []
        for i, (number, reason) in enumerate(thing):
            right = number in numbers if reason is None else (
                whole.get(reason) == number and set(reason[1]) <= set(told))
            if number in told or not right:
                return ("step", i)
            told.append(number)
        return None if set(numbers) <= set(told) and is_closed(signature, model, told) else ("all",)

    def test_form(self):
        for thing in [None, True, "x", (), ((2, None),), [None], [(2,)], [(2, None, None)], [[2, None]],
                      [("2", None)], [(True, None)], [(None, None)], [(2, ())], [(2, ("f",))], [(2, ["f", (2,)])],
                      [(2, ("f", [2]))], [(2, (None, (2,)))], [(2, ("f", (2,), 0))], [(2, 0)], [(2, False)],
                      [(2, None), None], [(9, None), (2, "f")], nested(300), [nested(299)]]:
            self.judged([2], thing, ("form",))

    def test_steps(self):
        self.judged([2], [(2, None)], None)
        self.judged([3], [(3, None), (2, ("f", (3,)))], None)
        for numbers, thing, wanted in [
                ([2], [(1, None)], 0), ([2], [(9, None)], 0), ([2], [(-1, None)], 0), ([2], [(2, None), (2, None)], 1),
                ([2], [(2, None), (2, ("f", (2,)))], 1), ([3], [(3, None), (2, ("f", (2,)))], 1),
                ([3], [(2, ("f", (3,))), (3, None)], 0), ([3], [(3, None), (1, ("f", (3,)))], 1),
                ([3], [(3, None), (2, ("g", (3,)))], 1), ([3], [(3, None), (2, ("", (3,)))], 1),
                ([3], [(3, None), (2, ("f", ()))], 1), ([3], [(3, None), (2, ("f", (3, 3)))], 1),
                ([3], [(3, None), (2, ("f", (9,)))], 1), ([3], [(3, None), (2, ("f", (None,)))], 1),
                ([3], [(3, None), (2, ("f", ([3],)))], 1), ([1, 0], [(1, None), (0, ("f", (True,)))], 1),
                ([0], [(0, None), (1, ("f", (False,)))], 1), ([0, 2], [(0, None), (3, None), (9, None)], 1)]:
            self.judged(numbers, thing, ("step", wanted))

    def test_all(self):
        for numbers, thing, wanted in [
                ([2], [], ("all",)), ([], [], None), ([3], [(3, None)], ("all",)), ([2, 2], [(2, None)], None),
                ([2, 0], [(2, None)], ("all",)), ([0, 1], [(0, None), (1, None)], None),
                ([0, 1], [(0, None), (1, ("f", (0,)))], None), ([0, 1], [(1, None), (0, ("f", (1,)))], None)]:
            self.judged(numbers, thing, wanted)
        self.judged([], [], ("all",), (("c", 0),), (2, ((1,),)))
        self.judged([], [(1, ("c", ()))], None, (("c", 0),), (2, ((1,),)))
        self.judged([], [(1, ("c", ())), (0, None)], ("step", 1), (("c", 0),), (2, ((1,),)))
        self.judged([1], [(1, None), (2, ("m", (1, 1))), (0, ("m", (2, 1)))], None, MC, self.plus)
        self.judged([1], [(1, None), (2, ("m", (1, 1))), (0, ("d", ()))], None, MC, self.plus)
        self.judged([1], [(1, None), (2, ("m", (1, 1))), (0, ("m", (2, 0)))], ("step", 2), MC, self.plus)
        self.judged([1], [(1, None), (2, ("m", (1, 1)))], ("all",), MC, self.plus)


if __name__ == "__main__":
    unittest.main()
