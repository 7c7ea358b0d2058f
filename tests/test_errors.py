"""The refusals, as the interface lists them."""

import unittest

from deedworlds import errors

WITHOUT = """NoArgs NoBack NoClosed NoEquation NoJoin NoKind NoLead NoLetters NoLine NoLink NoLot NoModel NoName
NoNumber NoNumbers NoOrder NoPair NoPlace NoPutting NoReading NoRenaming NoRoad NoRow NoRules NoSignature NoSize
NoTerm NoTitle NoWeighing NoWorths TooBig TooDeep TooMany""".split()
WITH = {"NoAnswer": ["wrong"], "NoDeed": ["at"], "NoFit": ["name"], "NoLeading": ["wrong"], "NoLemmas": ["wrong"],
        "NoPaper": ["wrong"], "NoSearch": ["wrong"], "NoText": ["row", "at"], "NoUse": ["at"]}


class ErrorsTest(unittest.TestCase):
    def test_each_stands_straight_under_deed_error(self):
        self.assertEqual(errors.DeedError.__bases__, (ValueError,))
        for name in WITHOUT + list(WITH):
            self.assertEqual(getattr(errors, name).__bases__, (errors.DeedError,), name)

    def test_none_is_another_one(self):
        for name in WITHOUT + list(WITH):
            for other in WITHOUT + list(WITH):
                self.assertEqual(issubclass(getattr(errors, name), getattr(errors, other)), name == other)

    def test_made_of_nothing_or_of_a_text(self):
        for name in ["DeedError"] + WITHOUT:
            error = getattr(errors, name)
            self.assertIsInstance(error(), ValueError)
            self.assertEqual(str(error("why")), "why")
            with self.assertRaises(errors.DeedError):
                raise error("why")

    def test_made_of_values_by_places_and_by_names(self):
        for name, fields in WITH.items():
            error = getattr(errors, name)
            values = [("tree", (0, 1)), 7][:len(fields)]
            for one in (error(*values), error(**dict(zip(fields, values)))):
                self.assertIsInstance(one, errors.DeedError)
                self.assertIsInstance(one, ValueError)
                self.assertEqual([getattr(one, field) for field in fields], values)

    def test_made_of_nothing_all_the_same(self):
        for name, fields in WITH.items():
            self.assertEqual([getattr(getattr(errors, name)(), field) for field in fields], [None] * len(fields))
            self.assertEqual(getattr(getattr(errors, name)("why"), fields[0]), "why")

    def test_no_text_by_names_in_any_order(self):
        one = errors.NoText(at=3, row=1)
        self.assertEqual((one.row, one.at), (1, 3))


if __name__ == "__main__":
    unittest.main()
