"""Point 2: what is handed in stays, and what is told is the asker's own."""

import unittest

from deedworlds.models import Model, told_by
from deedworlds.terms import lettered, matched, paths_in, put_in
from deedworlds.texts import read_kind
from tests.helpers import MFE, Checks, deed, equation, term, var

PLUS = (2, ((0, 1, 1, 0), (1, 0), (0,)))


class OwnTest(Checks, unittest.TestCase):
    def test_told_lists_and_dicts_are_new_ones(self):
        self.own(paths_in, MFE, term("m(m(x, e), f(y))"))
        self.own(matched, MFE, term("m(x, f(y))"), term("m(f(y), f(e))"))
        self.own(put_in, MFE, term("m(x, y)"), {"x": deed("e"), "y": var("z")})
        self.own(told_by, MFE, PLUS, [equation("x = x"), equation("x = e")])
        self.own(read_kind, "KIND m/2\nx = x")

    def test_a_putting_that_is_changed_behind(self):
        putting = {"x": var("y")}
        told = put_in(MFE, term("f(x)"), putting)
        putting["x"] = deed("e")
        self.assertEqual(told, term("f(y)"))
        self.assertEqual(putting, {"x": deed("e")})

    def test_a_told_putting_may_be_handed_in(self):
        told = matched(MFE, term("m(x, y)"), term("m(e, f(z))"))
        self.assertEqual(put_in(MFE, term("m(x, y)"), told), term("m(e, f(z))"))
        self.assertEqual(list(told), list(matched(MFE, term("m(x, y)"), term("m(e, f(z))"))))

    def test_the_order_of_keys_means_nothing(self):
        one = {"x": var("y"), "y": deed("e")}
        other = {"y": deed("e"), "x": var("y")}
        self.assertEqual(put_in(MFE, term("m(x, y)"), one), put_in(MFE, term("m(x, y)"), other))

    def test_a_list_of_equations_that_is_changed_behind(self):
        equations = [equation("x = x"), equation("x = e")]
        told = told_by(MFE, PLUS, equations)
        equations.clear()
        self.assertEqual(told, [True, False])
        self.assertEqual(lettered(MFE, var("z")), var("u"))

    def test_a_model_stays(self):
        one = Model(MFE, 2, PLUS[1])
        one.with_cell("f", (0,), 0)
        self.assertEqual((one.as_model(), one.its_signature()), (PLUS, MFE))


if __name__ == "__main__":
    unittest.main()
