import unittest

from lanekeepers import errors

VALUED = """Country Gate Many Place Stand Web Yard Backward Book Books Cart Claim Command Door East End Filling Forward
Gates Goal Kind Known Knowns Lanes Load Mends Origin Paper Places Post Prices Side Start Step Steps Target West
Word""".split()

# The bases of each, and the names of its attributes in the sequence of the parameters.
TOLD = {
    "LaneError": ("ValueError", []),
    "MissingError": ("LookupError", []),
    "StateError": ("RuntimeError", []),
    "LimitError": ("ArithmeticError", []),
    "InvalidLines": ("LaneError", ["position"]),
    "InvalidText": ("LaneError", ["position"]),
    "NoCart": ("MissingError", ["value"]),
    "UnknownLabel": ("MissingError", ["value"]),
    "UnknownName": ("MissingError", ["value"]),
    "CommandFailed": ("StateError", ["position"]),
    "Contrary": ("StateError", []),
    "LabelTaken": ("StateError", ["label"]),
    "NameTaken": ("StateError", ["name"]),
    "NoPost": ("StateError", []),
    "NoneThere": ("StateError", []),
    "NotALine": ("StateError", []),
    "NotBounded": ("StateError", []),
    "NothingToRedo": ("StateError", []),
    "NothingToUndo": ("StateError", []),
    "Refused": ("StateError", []),
    "StepFails": ("StateError", ["position"]),
    "TooMany": ("LimitError", ["what", "limit"]),
}
TOLD.update({"Invalid" + word: ("LaneError", ["value"]) for word in VALUED})

SOME = [None, True, -1, 10 ** 5000, "x", b"x", [1, [2]], (1, 2), {"a": []}, {3}, object(), len, ValueError("y")]


class ErrorsTest(unittest.TestCase):
    def test_direct_bases(self):
        for name, (base, _) in TOLD.items():
            with self.subTest(name=name):
                self.assertEqual([one.__name__ for one in getattr(errors, name).__bases__], [base])

    def test_nothing_is_missing_and_nothing_more_is_there(self):
        classes = [name for name in dir(errors) if isinstance(getattr(errors, name), type)]
        self.assertEqual(sorted(classes), sorted(TOLD))
        self.assertEqual(len(classes), 60)

    def test_each_has_its_own_module(self):
        for name in TOLD:
            self.assertEqual(getattr(errors, name).__module__, "lanekeepers.errors")

    def test_attributes_by_position_and_by_name(self):
        for name, (_, params) in TOLD.items():
            with self.subTest(name=name):
                made = getattr(errors, name)
                values = [["some"], {"other": 2}][:len(params)]
                by_position = made(*values)
                by_name = made(**dict(zip(params, values)))
                for param, value in zip(params, values):
                    self.assertIs(getattr(by_position, param), value)
                    self.assertIs(getattr(by_name, param), value)

    def test_made_with_any_values(self):
        for name, (_, params) in TOLD.items():
            for value in SOME:
                error = getattr(errors, name)(*([value] * len(params)))
                for param in params:
                    self.assertIs(getattr(error, param), value)

    def test_too_many_or_too_few_values(self):
        for name, (_, params) in TOLD.items():
            if params:
                with self.subTest(name=name):
                    with self.assertRaises(TypeError):
                        getattr(errors, name)(*([1] * (len(params) - 1)))
                    with self.assertRaises(TypeError):
                        getattr(errors, name)(*([1] * (len(params) + 1)))

    def test_caught_by_python_s_own(self):
        for error, base in [(errors.InvalidWeb(1), ValueError), (errors.NoCart(1), LookupError),
                            (errors.Refused(), RuntimeError), (errors.TooMany("loads", 400), ArithmeticError)]:
            with self.assertRaises(base):
                raise error


if __name__ == "__main__":
    unittest.main()
