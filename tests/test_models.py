"""Points 9 to 12: models, worths, what is kept, and the class Model."""

import itertools
import unittest

from deedworlds.errors import (
    NoArgs, NoEquation, NoKind, NoLetters, NoModel, NoName, NoSignature, NoTerm, NoWorths,
)
from deedworlds.models import (
    Model, broken_many, first_broken, keeps, model_wrong, told_by, worth_by, worth_row,
)
from deedworlds.modeltexts import model_text, read_model
from tests.helpers import (
    M, MFE, VARIABLES, Checks, breaks, deed, equation, fixed_chance, kept, kind, letters_in, nested, some_model,
    some_term, term, tower, var, worth,
)

PLUS = (2, ((0, 1, 1, 0), (1, 0), (0,)))
NO_MODELS = [None, True, 3, "MODEL", (), (2,), [2, ()], (2, (), ()), (0, ()), (7, ()), (True, ((0,), (0,), (0,))),
             (2, [(0, 1, 1, 0), (1, 0), (0,)]), (2, ((0, 1, 1, 0), (1, 0))), (2, ((0, 1, 1), (1, 0), (0,))),
             (2, ((0, 1, 1, 2), (1, 0), (0,))), (2, ((0, 1, True, 0), (1, 0), (0,))), nested(300)]


class ModelWrongTest(Checks, unittest.TestCase):
    def test_right_ones(self):
        chance = fixed_chance()
        self.assertIsNone(model_wrong(MFE, PLUS))
        for size in range(1, 7):
            self.assertIsNone(model_wrong(MFE, some_model(chance, MFE, size)))

    def test_model(self):
        for thing in [None, True, "MODEL 2", (), (2,), [2, ()], (2, (), ()), nested(300)]:
            self.assertEqual(model_wrong(MFE, thing), ("model",), thing)

    def test_size(self):
        for size in [0, 7, -1, True, False, None, "2", (2,), 10 ** 29]:
            self.assertEqual(model_wrong(MFE, (size, None)), ("size",), size)

    def test_tables(self):
        for tables in [None, [], list(PLUS[1]), (), PLUS[1][:2], PLUS[1] + ((0,),), 7, "abc"]:
            self.assertEqual(model_wrong(MFE, (2, tables)), ("tables",), tables)

    def test_table(self):
        self.assertEqual(model_wrong(MFE, (2, (None, None, None))), ("table", 0))
        self.assertEqual(model_wrong(MFE, (2, ((9, 9, 9, 9), [1, 0], (0,)))), ("table", 1))
        self.assertEqual(model_wrong(MFE, (2, ((9, 9, 9, 9), (1, 0), ()))), ("table", 2))
        self.assertEqual(model_wrong(MFE, (2, ((0, 1, 1, 0), (1, 0, 1), (0,)))), ("table", 1))
        self.assertEqual(model_wrong(MFE, (3, PLUS[1])), ("table", 0))
        self.assertEqual(model_wrong(MFE, (2, ("0110", (1, 0), (0,)))), ("table", 0))

    def test_cell(self):
        for odd in [2, -1, True, False, None, "0", (0,), [0], 10 ** 29]:
            self.assertEqual(model_wrong(MFE, (2, ((0, 1, 1, odd), (odd, 0), (0,)))), ("cell", 0, 3), odd)
            self.assertEqual(model_wrong(MFE, (2, ((0, 1, 1, 0), (1, odd), (odd,)))), ("cell", 1, 1), odd)
            self.assertEqual(model_wrong(MFE, (2, ((0, 1, 1, 0), (1, 0), (odd,)))), ("cell", 2, 0), odd)

    def test_refusals(self):
        self.refuses(NoSignature, model_wrong, None, None)
        for thing in NO_MODELS:
            self.refuses(NoModel, worth_by, MFE, thing, None, None)
            self.refuses(NoModel, worth_row, MFE, thing, None, None)
            self.refuses(NoModel, keeps, (MFE, ()), thing)
            self.refuses(NoModel, first_broken, (MFE, ()), thing)
            self.refuses(NoModel, broken_many, MFE, thing, None)
            self.refuses(NoModel, told_by, MFE, thing, None)
            self.refuses(NoModel, told_by, MFE, thing, [None])
            self.refuses(NoModel, model_text, MFE, thing)
        for thing in [None, (), (("m", True),)]:
            self.refuses(NoSignature, worth_by, thing, None, None, None)
            self.refuses(NoSignature, worth_row, thing, None, None, None)
            self.refuses(NoSignature, broken_many, thing, None, None)
            self.refuses(NoSignature, told_by, thing, None, None)
            self.refuses(NoKind, keeps, thing, None)
            self.refuses(NoKind, first_broken, (thing, ()), None)


class WorthTest(Checks, unittest.TestCase):
    def test_worth_by(self):
        self.assertEqual(worth_by(MFE, PLUS, term("m(x, f(y))"), (0, 0)), 1)
        self.assertEqual(worth_by(MFE, PLUS, term("e"), ()), 0)
        self.assertEqual(worth_by(signature=MFE, model=PLUS, term=term("m(z, u)"), worths=(0, 1)), 1)
        minus = (3, (tuple((a - b) % 3 for a in range(3) for b in range(3)), (0, 0, 0), (0,)))
        self.assertEqual(worth_by(MFE, minus, term("m(z, u)"), (1, 0)), 2)

    def test_no_worths(self):
        for worths in [None, (), (0,), (0, 0, 0), [0, 0], (0, 2), (0, -1), (True, 0), (0, False), (0, None), "00",
                       (0, "0"), nested(300)]:
            self.refuses(NoWorths, worth_by, MFE, PLUS, term("m(x, y)"), worths)
        self.refuses(NoWorths, worth_by, MFE, PLUS, term("e"), (0,))
        self.refuses(NoTerm, worth_by, MFE, PLUS, None, None)

    def test_against_a_plain_count(self):
        chance = fixed_chance()
        for size in range(1, 7):
            model = some_model(chance, MFE, size)
            for step in range(20):
                one = some_term(chance, MFE, 20, VARIABLES[:1 + step % 6])
                letters = letters_in(one)
                row = tuple(chance.randrange(size) for name in letters)
                self.assertEqual(worth_by(MFE, model, one, row), worth(MFE, model, one, dict(zip(letters, row))))

    def test_worth_row(self):
        self.assertEqual(worth_row(MFE, PLUS, term("m(x, y)"), ("x", "y")), (0, 1, 1, 0))
        self.assertEqual(worth_row(MFE, PLUS, term("f(x)"), ("x", "y")), (1, 1, 0, 0))
        self.assertEqual(worth_row(MFE, PLUS, term("f(y)"), ("x", "y")), (1, 0, 1, 0))
        self.assertEqual(worth_row(MFE, PLUS, term("e"), ()), (0,))
        self.assertEqual(worth_row(signature=MFE, model=PLUS, term=term("f(e)"), chosen=("z",)), (1, 1))

    def test_worth_row_against_a_plain_count(self):
        chance = fixed_chance()
        for size in range(1, 7):
            model = some_model(chance, MFE, size)
            for many in range(5):
                chosen = tuple(sorted(chance.sample(VARIABLES, many)))
                one = some_term(chance, MFE, 20, chosen) if many else deed("f", deed("m", deed("e"), deed("e")))
                rows = itertools.product(range(size), repeat=many)
                self.assertEqual(worth_row(MFE, model, one, chosen),
                                 tuple(worth(MFE, model, one, dict(zip(chosen, row))) for row in rows))

    def test_no_letters(self):
        for chosen in [None, (), ("x",), ("y", "x"), ("x", "x", "y"), ["x", "y"], ("x", "y", "a"), ("x", "y", True),
                       ("u", "v", "w", "x", "y"), "xy", ("x", None), ("x", "z"), (("x",), "y"), nested(300)]:
            self.refuses(NoLetters, worth_row, MFE, PLUS, term("m(x, y)"), chosen)
        five = term("m(u, m(v, m(w, m(x, y))))")
        self.refuses(NoLetters, worth_row, MFE, PLUS, five, ("u", "v", "w", "x", "y"))
        self.refuses(NoTerm, worth_row, MFE, PLUS, None, None)

    def test_the_greatest_row_soon(self):
        model = some_model(fixed_chance(), MFE, 6)
        one = tower("f", 53, term("m(m(u, v), m(w, x))"))
        self.assertEqual(len(worth_row(MFE, model, one, ("u", "v", "w", "x"))), 1296)


class KeepingTest(Checks, unittest.TestCase):
    def test_kept_and_broken(self):
        group = kind("m/2 f/1 e/0", "m(x, e) = x", "m(x, y) = m(y, x)", "m(x, f(x)) = e")
        self.assertIs(keeps(group, PLUS), False)
        self.assertEqual(first_broken(group, PLUS), (2, (0,)))
        self.assertIs(keeps(group, (2, (PLUS[1][0], (0, 1), (0,)))), True)
        self.assertIsNone(first_broken(group, (2, (PLUS[1][0], (0, 1), (0,)))))
        self.assertIs(keeps((MFE, ()), PLUS), True)
        self.assertEqual(first_broken(kind=kind("m/2 f/1 e/0", "x = y"), model=PLUS), (0, (0, 1)))
        self.assertEqual(first_broken(kind("m/2 f/1 e/0", "f(e) = e"), PLUS), (0, ()))

    def test_against_a_plain_count(self):
        chance = fixed_chance()
        for size in range(1, 7):
            for many in range(5):
                model = some_model(chance, MFE, size)
                if many % 2 == 0:
                    model = (size, (tuple(a for a in range(size) for b in range(size)), tuple(range(size)), (0,)))
                letters = VARIABLES[:many]
                some = []
                while len(some) < 4:
                    one = tuple(some_term(chance, MFE, 7, letters or "x") for side in range(2))
                    if many or not letters_in(*one):
                        some.append(one)
                for one in some:
                    self.assertEqual(broken_many(MFE, model, one), len(breaks(MFE, model, one)))
                self.assertEqual(told_by(MFE, model, some), [not breaks(MFE, model, one) for one in some])
                whole = (MFE, tuple(some))
                self.assertEqual(keeps(whole, model), kept(whole, model))
                first = [(k, rows[0]) for k, rows in enumerate(breaks(MFE, model, one) for one in some) if rows]
                self.assertEqual(first_broken(whole, model), first[0] if first else None)

    def test_no_equation(self):
        one = equation("x = x")
        for thing in [None, (), one[0], (one[0], None), (tower("f", 13), one[0]), equation("x = y") + (one,)]:
            self.refuses(NoEquation, broken_many, MFE, PLUS, thing)
            self.refuses(NoEquation, told_by, MFE, PLUS, [one, thing])
        self.assertEqual(told_by(MFE, PLUS, [one] * 8), [True] * 8)
        self.assertEqual(told_by(MFE, PLUS, []), [])
        self.refuses(NoEquation, told_by, MFE, PLUS, [one] * 9)
        self.assertEqual(told_by(signature=MFE, model=PLUS, equations=[equation("x = e")]), [False])
        self.assertEqual(broken_many(signature=MFE, model=PLUS, equation=equation("x = e")), 1)


class ModelTest(Checks, unittest.TestCase):
    def test_made(self):
        one = Model(MFE, 2, PLUS[1])
        self.assertEqual(one.its_signature(), MFE)
        self.assertEqual(one.as_model(), PLUS)
        self.assertEqual(len(one), 2)
        self.assertEqual(str(one), "MODEL 2\nm 0 1, 1 0\nf 1 0\ne 0")
        self.assertEqual(Model(signature=MFE, size=2, tables=PLUS[1]).as_model(), PLUS)

    def test_refused(self):
        self.refuses(NoSignature, Model, None, None, None)
        for size, tables in [(None, None), (True, ((0,), (0,), (0,))), (3, PLUS[1]), (2, list(PLUS[1])),
                             (2, ((0, 1, 1, 2), (1, 0), (0,))), (nested(299), 0)]:
            self.refuses(NoModel, Model, MFE, size, tables)

    def test_makes(self):
        model = some_model(fixed_chance(), MFE, 3)
        one = Model(MFE, 3, model[1])
        for a, b in itertools.product(range(3), repeat=2):
            self.assertEqual(one.makes("m", (a, b)), model[1][0][a * 3 + b])
            self.assertEqual(one.makes("f", (a,)), model[1][1][a])
        self.assertEqual(one.makes("e", ()), model[1][2][0])
        self.assertEqual(one.makes(name="e", args=()), model[1][2][0])

    def test_makes_refuses(self):
        one = Model(MFE, 2, PLUS[1])
        for name in ["n", "", "mm", "x"]:
            self.refuses(NoName, one.makes, name, None)
            self.refuses(NoName, one.with_cell, name, None, None)
        for args in [None, (), (0,), (0, 0, 0), [0, 0], (0, 2), (-1, 0), (True, 0), (0, "0"), "00", nested(300)]:
            self.refuses(NoArgs, one.makes, "m", args)
            self.refuses(NoArgs, one.with_cell, "m", args, None)
        self.refuses(NoArgs, one.makes, "e", (0,))
        for number in [None, 2, -1, True, False, "0", (0,), [0], nested(300)]:
            self.refuses(NoWorths, one.with_cell, "m", (0, 0), number)

    def test_with_cell(self):
        one = Model(MFE, 2, PLUS[1])
        other = one.with_cell("m", (1, 0), 0)
        self.assertEqual(other.as_model(), (2, ((0, 1, 0, 0), (1, 0), (0,))))
        self.assertEqual(one.as_model(), PLUS)
        self.assertIsInstance(other, Model)
        self.assertFalse(one == other)
        self.assertTrue(one == other.with_cell(name="m", args=(1, 0), number=1))
        self.assertEqual(one.with_cell("e", (), 1).as_model(), (2, (PLUS[1][0], (1, 0), (1,))))
        self.assertEqual(one.with_cell("f", (1,), 1).as_model(), (2, (PLUS[1][0], (1, 1), (0,))))

    def test_equality(self):
        one = Model(MFE, 2, PLUS[1])
        self.assertTrue(one == Model(MFE, 2, PLUS[1]))
        turned = Model((("e", 0), ("m", 2), ("f", 1)), 2, (PLUS[1][2], PLUS[1][0], PLUS[1][1]))
        self.assertTrue(one == turned and turned == one)
        self.assertFalse(one != turned)
        self.assertFalse(one == Model((("m", 2), ("g", 1), ("e", 0)), 2, PLUS[1]))
        self.assertFalse(one == Model(M, 2, ((0, 1, 1, 0), (0,))))
        self.assertFalse(Model((("a", 0),), 1, ((0,),)) == Model((("a", 1),), 1, ((0,),)))
        self.assertFalse(Model((("a", 0),), 1, ((0,),)) == Model((("a", 0),), 2, ((0,),)))
        two = (("f", 1), ("g", 1))
        self.assertFalse(Model(two, 2, ((0, 1), (1, 0))) == Model(two, 2, ((1, 0), (0, 1))))
        for thing in [None, True, 2, str(one), PLUS, list(PLUS), (MFE, 2, PLUS[1])]:
            self.assertFalse(one == thing)
            self.assertTrue(one != thing)


class ModelTextTest(Checks, unittest.TestCase):
    def test_told(self):
        self.assertEqual(model_text(M, (2, ((0, 1, 1, 0), (0,)))), "MODEL 2\nm 0 1, 1 0\ne 0")
        self.assertEqual(model_text(MFE, (1, ((0,), (0,), (0,)))), "MODEL 1\nm 0\nf 0\ne 0")
        three = (3, ((0, 1, 2, 0, 1, 2, 2, 2, 2), (2, 1, 0), (1,)))
        self.assertEqual(model_text(MFE, three), "MODEL 3\nm 0 1 2, 0 1 2, 2 2 2\nf 2 1 0\ne 1")
        self.refuses(NoSignature, model_text, None, None)

    def test_told_and_read_back(self):
        chance = fixed_chance()
        for size in range(1, 7):
            model = some_model(chance, MFE, size)
            self.assertEqual(read_model(MFE, model_text(MFE, model)), model)
            self.assertEqual(str(Model(MFE, size, model[1])), model_text(signature=MFE, model=model))
        self.assertEqual(read_model(signature=M, text="MODEL 1\nm 0\ne 0"), (1, ((0,), (0,))))

    def test_first_line(self):
        for text, at in [("", 0), ("model 2", 0), ("MODEL", 5), ("MODEL ", 6), ("MODEL 0", 6), ("MODEL 7", 6),
                         ("MODEL 12", 7), ("MODEL 2 ", 7), ("MODEL  2", 6), ("MODEL-2", 5), ("\nMODEL 2", 0),
                         ("MODEL -1", 6)]:
            self.breaks_at(0, at, read_model, M, text)
            self.breaks_at(0, at, read_model, M, text + "\nm 0 1, 1 0\ne 0")

    def test_lines(self):
        for line, at in [("", 0), ("m", 1), ("m ", 2), ("n 0 1, 1 0", 0), ("mm 0 1, 1 0", 1), ("m 0 1 1 0", 5),
                         ("m 0 1, 1 0 ", 10), ("m 0 1, 1 0, 0", 10), ("m 0 1, 1", 8), ("m 0 1, 1 ", 9),
                         ("m 0 2, 1 0", 4), ("m 0 -1, 1 0", 4), ("m 0  1, 1 0", 4), ("m 0, 1, 1 0", 3),
                         ("m 0 1,1 0", 6), ("m 00 1, 1 0", 3), ("m  0 1, 1 0", 2), (" m 0 1, 1 0", 0)]:
            self.breaks_at(1, at, read_model, M, "MODEL 2\n" + line + "\ne 0")
            self.breaks_at(1, at, read_model, M, "MODEL 2\n" + line)
        for line, at in [("", 0), ("e", 1), ("e ", 2), ("e 2", 2), ("e 0 0", 3), ("m 0 1, 1 0", 0), ("e 0,", 3)]:
            self.breaks_at(2, at, read_model, M, "MODEL 2\nm 0 1, 1 0\n" + line)

    def test_lines_fewer_and_more(self):
        self.breaks_at(1, 0, read_model, M, "MODEL 2")
        self.breaks_at(2, 0, read_model, M, "MODEL 2\nm 0 1, 1 0")
        self.breaks_at(3, 0, read_model, M, "MODEL 2\nm 0 1, 1 0\ne 0\n")
        self.breaks_at(3, 0, read_model, M, "MODEL 2\nm 0 1, 1 0\ne 0\ne 0")
        self.breaks_at(3, 0, read_model, M, "MODEL 2\nm 0 1, 1 0\ne 0\n\n\n")
        self.breaks_at(1, 0, read_model, M, "MODEL 2\n\nm 0 1, 1 0\ne 0")
        self.breaks_at(2, 2, read_model, M, "MODEL 2\nm 0 1, 1 0\ne 2\ne 0")
        self.refuses(NoSignature, read_model, None, "MODEL 2")


if __name__ == "__main__":
    unittest.main()
