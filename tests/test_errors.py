import inspect
import unittest

from regionsay import errors

KINDS = {"NoLand": ["name"], "BadSaying": ["at", "why"], "NoDrawing": ["paper"],
         "NoSaying": ["number"], "BadText": ["row"]}


def samples():
    paper = ([("a", "b", "c")], ("cases", "a", "b", [([], ("none", "a", "c"))]))
    return [errors.NoLand("x"), errors.BadSaying(3, "self"), errors.NoDrawing(paper),
            errors.NoSaying(7), errors.BadText(2)]


class TestErrors(unittest.TestCase):
    def test_all_stand_straight_under_land_error(self):
        self.assertEqual(errors.LandError.__bases__, (ValueError,))
        for name in KINDS:
            self.assertEqual(getattr(errors, name).__bases__, (errors.LandError,), name)

    def test_these_are_all_and_are_defined_here(self):
        found = [name for name, told in vars(errors).items() if inspect.isclass(told)]
        self.assertEqual(sorted(found), sorted([*KINDS, "LandError"]))
        for name in found:
            self.assertEqual(getattr(errors, name).__module__, "regionsay.errors")

    def test_fields_are_set(self):
        self.assertEqual(errors.NoLand("x").name, "x")
        self.assertEqual(errors.NoLand(name="y").name, "y")
        bad = errors.BadSaying(3, "self")
        self.assertEqual((bad.at, bad.why), (3, "self"))
        paper = ([("a", "b", "c")], ("none", "a", "c"))
        self.assertEqual(errors.NoDrawing(paper).paper, paper)
        self.assertEqual(errors.NoSaying(7).number, 7)
        self.assertEqual(errors.BadText(0).row, 0)

    def test_each_has_its_fields_and_no_other_ones(self):
        for told in samples():
            self.assertEqual(sorted(vars(told)), sorted(KINDS[told.__class__.__name__]))

    def test_arguments_are_named_as_the_fields(self):
        for name, fields in KINDS.items():
            self.assertEqual(list(inspect.signature(getattr(errors, name)).parameters), fields)

    def test_each_can_be_raised_and_caught_as_any_refusal(self):
        for told in samples():
            with self.assertRaises(errors.LandError) as caught:
                raise told
            self.assertIs(caught.exception, told)
            self.assertTrue(str(told))

    def test_one_kind_is_not_caught_as_another(self):
        for told in samples():
            kinds = [name for name in KINDS if isinstance(told, getattr(errors, name))]
            self.assertEqual(kinds, [told.__class__.__name__])

    def test_a_paper_is_kept_as_a_copy(self):
        paper = ([("a", "b", "c")], ("cases", "a", "b", [([], ("none", "a", "c"))]))
        same = ([("a", "b", "c")], ("cases", "a", "b", [([], ("none", "a", "c"))]))
        told = errors.NoDrawing(paper)
        paper[1][3][0][0].append(("c", "b", "a"))
        paper[0].clear()
        self.assertEqual(told.paper, same)
        told.paper[1][3].clear()
        self.assertEqual(len(paper[1][3]), 1)

    def test_a_paper_of_deep_cases_is_kept(self):
        paper = ([], ("none", "a", "b"))
        for _ in range(80):
            paper = ([("a", "b", "c")], ("cases", "a", "b", [paper]))
        self.assertEqual(errors.NoDrawing(paper).paper, paper)


if __name__ == "__main__":
    unittest.main()
