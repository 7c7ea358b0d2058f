"""Points 61a and 61b: weighings, weights, and which term is heavier."""

import unittest

from deedworlds.errors import NoSignature, NoTerm, NoWeighing
from deedworlds.weights import compared, weighing_wrong, weight_of
from tests.helpers import MFE, Checks, fixed_chance, nested, some_term, term, tower, var
from tests.walks import put

WEIGHING = ((2, 1, 3), (2, 0, 1))


def weight(weighing, one):
    if one[0] == "var":
        return 1
    names = [name for name, places in MFE]
    return weighing[0][names.index(one[1])] + sum(weight(weighing, part) for part in one[2])


def standings(one, name):
    return int(one == ("var", name)) if one[0] == "var" else sum(standings(part, name) for part in one[2])


def heavier(weighing, one, other):
    """The words of point 61b."""
    if any(standings(one, name) < standings(other, name) for name in "uvwxyz"):
        return False
    if weight(weighing, one) > weight(weighing, other):
        return True
    if weight(weighing, one) < weight(weighing, other) or one[0] == "var" or other[0] == "var":
        return False
    if one[1] != other[1]:
        places = [weighing[1].index([name for name, many in MFE].index(side[1])) for side in (one, other)]
        return places[0] > places[1]
    unlike = [pair for pair in zip(one[2], other[2]) if pair[0] != pair[1]]
    return bool(unlike) and heavier(weighing, *unlike[0])


class WeighingTest(Checks, unittest.TestCase):
    def test_right_ones(self):
        for thing in [WEIGHING, ((1, 1000, 1), (0, 1, 2)), ((1, 1, 1), (2, 1, 0))]:
            self.assertIsNone(weighing_wrong(signature=MFE, thing=thing))
        self.assertIsNone(weighing_wrong((("f", 1),), ((1000,), (0,))))

    def test_no_weighing(self):
        for thing in [None, True, 0, "x", (), [], [WEIGHING[0], WEIGHING[1]], WEIGHING[:1], WEIGHING + (None,),
                      nested(300)]:
            self.assertEqual(weighing_wrong(MFE, thing), ("weighing",), thing)
            self.refuses(NoWeighing, weight_of, MFE, thing, None)
            self.refuses(NoWeighing, compared, MFE, thing, None, None)

    def test_no_weights(self):
        for thing in [None, 2, "213", [2, 1, 3], (2, 1), (2, 1, 3, 1), (2, 1, 0), (2, 1, 1001), (2, 1, -1),
                      (2, True, 3), (2, False, 3), (2, None, 3), (2, "1", 3), (2, (1,), 3), (), (10 ** 29, 1, 1),
                      nested(299)]:
            self.assertEqual(weighing_wrong(MFE, (thing, None)), ("weights",), thing)
            self.refuses(NoWeighing, weight_of, MFE, (thing, (0, 1, 2)), None)

    def test_no_rank(self):
        for thing in [None, 0, "201", [2, 0, 1], (2, 0), (2, 0, 1, 3), (2, 0, 0), (2, 0, 3), (-1, 0, 1), (2, 0, True),
                      (2, False, 1), (2, None, 1), (2, "0", 1), (2, [0], 1), (), ((0,), 1, 2), nested(299)]:
            self.assertEqual(weighing_wrong(MFE, ((2, 1, 3), thing)), ("rank",), thing)
            self.refuses(NoWeighing, compared, MFE, ((2, 1, 3), thing), None, None)

    def test_refusals_in_order(self):
        for function, more in [(weighing_wrong, ()), (weight_of, (None,)), (compared, (None, None))]:
            self.refuses(NoSignature, function, None, None, *more)
            self.refuses(NoSignature, function, MFE + MFE[:1], WEIGHING, *more)
        for thing in [None, ("var", "a"), tower("f", 61), term("e")[:2], nested(300)]:
            self.refuses(NoTerm, weight_of, MFE, WEIGHING, thing)
            self.refuses(NoTerm, compared, MFE, WEIGHING, thing, thing)
            self.refuses(NoTerm, compared, MFE, WEIGHING, term("x"), thing)
            self.refuses(NoTerm, compared, MFE, WEIGHING, thing, term("x"))

    def test_weight(self):
        self.assertEqual(weight_of(signature=MFE, weighing=WEIGHING, term=term("m(f(x), m(x, e))")), 2 + 1 + 1 + 2 + 1 + 3)
        self.assertEqual(weight_of(MFE, WEIGHING, var("z")), 1)
        self.assertEqual(weight_of(MFE, ((1, 1000, 1), (0, 1, 2)), tower("f", 60)), 59001)
        chance = fixed_chance(63)
        for step in range(100):
            one = some_term(chance, MFE, 20)
            self.assertEqual(weight_of(MFE, WEIGHING, one), weight(WEIGHING, one))


class ComparedTest(Checks, unittest.TestCase):
    def both(self, one, other, wanted, weighing=WEIGHING):
        one, other = term(one), term(other)
        turned = {"heavier": "lighter", "lighter": "heavier"}.get(wanted, wanted)
        self.assertEqual(compared(signature=MFE, weighing=weighing, one=one, other=other), wanted)
        self.assertEqual(compared(MFE, weighing, other, one), turned)
        self.assertEqual(compared(MFE, weighing, one, one), "same")

    def test_by_weight(self):
        self.both("f(x)", "x", "heavier")
        self.both("m(x, y)", "f(x)", "heavier")
        self.both("e", "f(e)", "lighter")
        self.both("f(f(e))", "f(e)", "heavier")

    def test_variables_that_stand_more_often_on_either_side(self):
        self.both("m(x, y)", "f(z)", "apart")
        self.both("m(x, x)", "f(x)", "heavier")
        self.both("m(x, e)", "m(x, x)", "apart")
        self.both("x", "y", "apart")
        self.both("x", "e", "apart", ((1, 1, 1), (0, 1, 2)))
        self.both("m(x, y)", "m(x, x)", "apart")
        self.both("m(m(x, x), y)", "m(x, y)", "heavier")
        self.both("f(f(f(f(f(x)))))", "m(x, x)", "apart")
        self.both("m(x, y)", "m(y, x)", "apart")
        self.both("x", "f(y)", "apart")

    def test_equal_weights_and_unlike_ranks(self):
        same = ((1, 1, 1), (2, 0, 1))
        self.both("f(e)", "f(e)", "same", same)
        self.both("f(m(e, e))", "m(e, f(e))", "heavier", same)
        self.both("f(m(e, e))", "m(e, f(e))", "lighter", ((1, 1, 1), (2, 1, 0)))
        self.both("f(m(x, y))", "m(f(x), y)", "heavier", same)
        self.both("f(m(x, y))", "m(f(y), x)", "heavier", same)
        self.both("f(m(x, y))", "m(f(y), z)", "apart", same)
        self.both("f(f(f(e)))", "m(e, f(e))", "lighter", ((1, 1, 1), (2, 1, 0)))

    def test_one_deed_and_unlike_terms_at_the_first_and_at_the_second_place(self):
        same = ((1, 1, 1), (2, 0, 1))
        self.both("m(f(e), e)", "m(e, f(e))", "heavier", same)
        self.both("m(e, f(m(e, e)))", "m(e, m(e, f(e)))", "heavier", same)
        self.both("m(m(x, y), z)", "m(x, m(y, z))", "heavier", same)
        self.both("m(x, m(f(y), z))", "m(x, m(y, f(z)))", "heavier", same)
        self.both("m(y, f(x))", "m(x, f(y))", "apart", same)
        # the first unlike place alone counts, though the second one would be heavier
        self.both("m(e, f(f(e)))", "m(f(e), f(e))", "lighter", same)
        self.both("m(x, f(f(y)))", "m(f(y), f(x))", "apart", same)
        # at the first unlike place a variable stands less often, though it doesn't in the whole
        self.both("m(f(e), m(x, x))", "m(x, m(x, f(e)))", "apart", same)

    def test_against_the_words_of_the_point(self):
        chance = fixed_chance(64)
        seen = []
        for step in range(3000):
            weighing = (tuple(chance.choice([1, 1, 2, 3]) for k in range(3)), tuple(chance.sample(range(3), 3)))
            one = some_term(chance, MFE, chance.choice([3, 5, 7]), "xy")
            other = some_term(chance, MFE, chance.choice([3, 5, 7]), "xy")
            told = compared(MFE, weighing, one, other)
            wanted = ("same" if one == other else "heavier" if heavier(weighing, one, other)
                      else "lighter" if heavier(weighing, other, one) else "apart")
            self.assertEqual(told, wanted)
            seen.append(told)
            if told == "heavier":
                by = {name: some_term(chance, MFE, 4, "xyz") for name in "xy"}
                self.assertEqual(compared(MFE, weighing, put(one, by), put(other, by)), "heavier")
        for word in ("heavier", "lighter", "same", "apart"):
            self.assertGreater(seen.count(word), 50)

    def test_without_variables_never_apart(self):
        chance = fixed_chance(65)
        for step in range(500):
            one = put(some_term(chance, MFE, 9, "x"), {"x": term("e")})
            other = put(some_term(chance, MFE, 9, "x"), {"x": term("e")})
            self.assertEqual(compared(MFE, WEIGHING, one, other) == "same", one == other)
            self.assertNotEqual(compared(MFE, WEIGHING, one, other), "apart")

    def test_deep_ones(self):
        one, other = tower("f", 60, term("e")), tower("f", 60)
        self.assertEqual(compared(MFE, WEIGHING, one, other), "apart")
        self.assertEqual(compared(MFE, WEIGHING, tower("f", 60), tower("f", 59)), "heavier")
        self.assertEqual(compared(MFE, WEIGHING, other, other), "same")


if __name__ == "__main__":
    unittest.main()
