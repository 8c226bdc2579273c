import unittest

from partsmet import errors

FAMILIES = {
    "PartError": (ValueError, {
        "value": "InvalidKind InvalidMany InvalidState InvalidStates InvalidTable InvalidView InvalidWeb InvalidClaim "
                 "InvalidCommand InvalidCopy InvalidCulprit InvalidLog InvalidNames InvalidNumber InvalidPaper "
                 "InvalidPositions InvalidQuestion InvalidRenaming InvalidRun InvalidSort InvalidValue InvalidWay "
                 "InvalidWord",
        "position": "InvalidDeeds InvalidText",
    }),
    "MissingError": (LookupError, {"value": "UnknownLabel UnknownName"}),
    "StateError": (RuntimeError, {
        "position": "CommandFailed",
        "label": "LabelTaken",
        "name": "NameTaken",
        "": "Endless NoRing NotEven NotSingle NothingToRedo NothingToUndo UnlikeKinds",
    }),
    "LimitError": (ArithmeticError, {"what limit": "TooMany"}),
}
VALUES = [None, True, 0, -1, 10**29, "", "a", b"a", [], [[1], (2,)], {}, {"a": [1]}, {1, 2}, object(), len, ValueError]


def rows():
    """Each class of the document, with its base and the names of its attributes."""
    for base, (_, lines) in FAMILIES.items():
        for attributes, names in lines.items():
            for name in names.split():
                yield getattr(errors, name), getattr(errors, base), attributes.split()


class Families(unittest.TestCase):
    def test_bases(self):
        for name, (base, _) in FAMILIES.items():
            self.assertEqual(getattr(errors, name).__bases__, (base,))

    def test_direct_subclasses(self):
        for error, base, _ in rows():
            self.assertEqual(error.__bases__, (base,))

    def test_nothing_else(self):
        found = {name for name, each in vars(errors).items() if isinstance(each, type)}
        self.assertEqual(found, set(FAMILIES) | {error.__name__ for error, _, _ in rows()})

    def test_defined_here(self):
        for error, base, _ in rows():
            self.assertEqual((error.__module__, base.__module__), ("partsmet.errors", "partsmet.errors"))


class Attributes(unittest.TestCase):
    def test_by_place_and_by_name(self):
        for error, _, names in rows():
            for value in VALUES:
                told = {name: value if at == 0 else VALUES for at, name in enumerate(names)}
                for made in (error(*told.values()), error(**told)):
                    self.assertEqual(set(vars(made)), set(names))
                    for name in names:
                        self.assertIs(getattr(made, name), told[name])

    def test_no_other_numbers_of_values(self):
        for error, _, names in rows():
            self.assertRaises(TypeError, error, *(["x"] * (len(names) + 1)))
            if names:
                self.assertRaises(TypeError, error)

    def test_raised_and_caught(self):
        for error, base, names in rows():
            for wanted in (error, base, base.__bases__[0]):
                with self.assertRaises(wanted):
                    raise error(*names)

    def test_families_have_no_attributes(self):
        for name in FAMILIES:
            self.assertEqual(vars(getattr(errors, name)()), {})


if __name__ == "__main__":
    unittest.main()
