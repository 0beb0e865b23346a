import unittest

from placeworths import errors

GIVEN = "given"
INDEX = "index"
LISTED = {
    "WrongValue": (ValueError, {
        **{name: GIVEN for name in (
            "InvalidNumber", "InvalidChance", "InvalidDraw", "InvalidDraws", "InvalidRow", "InvalidBox",
            "InvalidCompany", "InvalidOrder", "InvalidWeb", "InvalidText", "InvalidPlace", "InvalidPlan",
            "InvalidSide", "InvalidShare", "InvalidBid", "InvalidPieces", "InvalidLoose", "InvalidUnknown",
            "InvalidName", "InvalidClaim", "InvalidIndex", "InvalidLine", "NotAWeb", "NotALoose", "NotAnUnknown",
        )},
        "InvalidDeeds": INDEX, "InvalidLog": INDEX,
    }),
    "WrongName": (LookupError, {"UnknownPlace": GIVEN, "UnknownName": GIVEN, "InUse": INDEX}),
    "NoAnswer": (ArithmeticError, {
        "Trapped": "lot", "NotAChain": None, "NotCoins": None, "NotParts": None, "NotEnding": None, "NotAnEnd": None,
        "NotApart": None, "NotStruck": None, "TooMixed": None, "AtAnEnd": None, "TooMany": "limit", "IsOver": None,
        "NothingToUndo": None, "Broken": INDEX,
    }),
}
VALUES = (None, 0, True, "a", ("a", "b"), [1], {}, {1}, len, object(), 10 ** 5000, ValueError("x"))


def listed_classes():
    for base, (parent, below) in LISTED.items():
        for name, attribute in below.items():
            yield getattr(errors, name), getattr(errors, base), parent, attribute


class Errors(unittest.TestCase):
    def test_bases_stand_under_their_error_of_python(self):
        for base, (parent, _) in LISTED.items():
            self.assertEqual(getattr(errors, base).__bases__, (parent,), base)

    def test_each_class_stands_under_one_base_and_no_other_class_of_the_package(self):
        for found, base, parent, _ in listed_classes():
            own = [one for one in found.__mro__ if one.__module__.startswith("placeworths")]
            self.assertEqual(own, [found, base])
            self.assertTrue(issubclass(found, parent))
            self.assertEqual(found.__module__, "placeworths.errors")

    def test_each_class_is_made_by_place_and_by_name_with_its_attribute(self):
        for found, _, _, attribute in listed_classes():
            if attribute is not None:
                for value in VALUES:
                    self.assertIs(getattr(found(value), attribute), value)
                    by_name = found(**{attribute: value})
                    self.assertIs(getattr(by_name, attribute), value)
                    self.assertEqual(list(vars(by_name)), [attribute])

    def test_classes_with_an_attribute_take_just_one_value(self):
        for found, _, _, attribute in listed_classes():
            if attribute is not None:
                with self.assertRaises(TypeError):
                    found()
                with self.assertRaises(TypeError):
                    found(1, 2)
                with self.assertRaises(TypeError):
                    found(**{attribute: 1, "other": 2})

    def test_classes_without_an_attribute_and_the_bases_take_none(self):
        bases = [getattr(errors, base) for base in LISTED]
        for found in bases + [found for found, _, _, attribute in listed_classes() if attribute is None]:
            self.assertEqual(vars(found()), {})
            with self.assertRaises(TypeError):
                found(1)
            with self.assertRaises(TypeError):
                found(given=1)

    def test_each_class_can_be_raised_and_caught_as_its_base(self):
        for found, base, parent, attribute in listed_classes():
            for caught_as in (found, base, parent):
                with self.assertRaises(caught_as):
                    raise found() if attribute is None else found(1)


if __name__ == "__main__":
    unittest.main()
