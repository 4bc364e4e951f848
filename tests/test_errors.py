import unittest

from usescale import errors

ARGUMENTS = {
    "BadScale": (), "EndlessScale": (), "MixedScales": (), "NegativeCount": ("count",),
    "NoBound": ("name", "first", "second"), "BadText": ("at",), "NoRedex": ("place",), "BadMap": (),
    "TooMany": ("size",), "BadCode": ("block", "row"), "CheckError": None, "RunError": None, "BookError": None,
    "KindClash": ("wanted", "found"), "WrongForm": ("word", "found"), "Overuse": ("name", "used", "allowed"),
    "NoTurns": ("name",), "TwiceBound": ("name",), "LooseGap": ("name",), "GoneTerm": (),
    "OutOfMoves": ("bound",), "GoneReached": (), "NotDone": (),
    "Refused": ("name",), "InUse": ("name", "users"), "BadName": ("name",), "BadLimit": ("bound",),
    "WrongCount": ("wanted", "found"), "TooLarge": ("size",),
    "UnknownGrade": ("name",), "UnboundName": ("name",), "Undefined": ("name",),
}

BASES = {
    "UsescaleError": ["BadScale", "EndlessScale", "MixedScales", "NegativeCount", "NoBound", "BadText", "NoRedex",
                      "BadMap", "TooMany", "BadCode", "CheckError", "RunError", "BookError"],
    "CheckError": ["KindClash", "WrongForm", "Overuse", "NoTurns", "TwiceBound", "LooseGap", "GoneTerm"],
    "RunError": ["OutOfMoves", "GoneReached", "NotDone"],
    "BookError": ["Refused", "InUse", "BadName", "BadLimit", "WrongCount", "TooLarge"],
    "NameMissing": ["UnknownGrade", "UnboundName", "Undefined"],
}


class ErrorTest(unittest.TestCase):
    def test_each_error_stands_under_the_class_that_it_is_told_under(self):
        for base, names in BASES.items():
            for name in names:
                with self.subTest(name=name):
                    self.assertEqual(getattr(errors, name).__bases__, (getattr(errors, base),))
        self.assertEqual(errors.UsescaleError.__bases__, (ValueError,))
        self.assertEqual(errors.NameMissing.__bases__, (LookupError,))

    def test_each_error_has_its_arguments_as_attributes(self):
        for name, arguments in ARGUMENTS.items():
            if arguments is None:
                continue
            with self.subTest(name=name):
                values = [["u"] if argument == "users" else f"value {argument}" for argument in arguments]
                error = getattr(errors, name)(*values)
                self.assertEqual([getattr(error, argument) for argument in arguments], values)
                self.assertIsInstance(str(error), str)

    def test_no_other_class_is_there(self):
        listed = {name for names in BASES.values() for name in names} | set(BASES)
        found = {name for name, value in vars(errors).items() if isinstance(value, type)}
        self.assertEqual(found, listed)

    def test_values_of_any_size_are_kept(self):
        self.assertEqual(errors.NegativeCount(-10 ** 5000).count, -10 ** 5000)
        self.assertIsNone(errors.TooMany(None).size)
        kind = ("pair", ("int",), ("int",))
        self.assertEqual(errors.KindClash(("int",), kind).found, kind)
        self.assertEqual(errors.NoRedex((0, 1)).place, (0, 1))

    def test_the_list_of_users_is_copied(self):
        users = ["a", "b"]
        error = errors.InUse("x", users)
        users.append("c")
        self.assertEqual(error.users, ["a", "b"])
        self.assertFalse(any(value is users for value in error.args))


if __name__ == "__main__":
    unittest.main()
