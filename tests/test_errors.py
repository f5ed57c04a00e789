import unittest

from weylweights import errors

GIVEN = (
    "InvalidMatrix", "InvalidType", "InvalidVector", "InvalidRoot", "InvalidNode", "InvalidNodes", "InvalidWeight",
    "InvalidWord", "InvalidSum", "InvalidTable", "InvalidCount", "InvalidPath", "InvalidExpression", "InvalidDeed",
    "InvalidBook", "NotAlike", "TooMany",
)
ATTRIBUTES = {**{name: "given" for name in GIVEN}, "InvalidLines": "index", "BadText": "spot"}
PLAIN = ("NotFinite", "NothingToUndo", "NothingToRedo", "NoPicture")


class Errors(unittest.TestCase):
    def test_base(self):
        self.assertEqual(errors.WeylError.__bases__, (ValueError,))
        self.assertEqual(vars(errors.WeylError()), {})

    def test_all_stand_under_the_base_alone(self):
        for name in [*ATTRIBUTES, *PLAIN]:
            with self.subTest(name):
                self.assertEqual(getattr(errors, name).__bases__, (errors.WeylError,))

    def test_these_are_all(self):
        found = {name for name, value in vars(errors).items() if isinstance(value, type)}
        self.assertEqual(found, {"WeylError", *ATTRIBUTES, *PLAIN})

    def test_attributes_by_position_and_by_name(self):
        for name, attribute in ATTRIBUTES.items():
            made = getattr(errors, name)
            for value in (None, 0, True, 10 ** 400, "x", (), [1], {"a": []}, object(), made):
                with self.subTest(name):
                    self.assertIs(getattr(made(value), attribute), value)
                    self.assertIs(getattr(made(**{attribute: value}), attribute), value)
                    self.assertEqual(list(vars(made(value))), [attribute])
            with self.assertRaises(TypeError):
                made()

    def test_without_attributes(self):
        for name in PLAIN:
            with self.subTest(name):
                self.assertEqual(vars(getattr(errors, name)()), {})

    def test_caught_by_the_bases(self):
        for base in (errors.WeylError, ValueError):
            with self.assertRaises(base):
                raise errors.TooMany(9)


if __name__ == "__main__":
    unittest.main()
