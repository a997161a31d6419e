"""Point 12: Classes and Components are equal if all their fields are."""

import unittest

from building import num
from linkwork.classes import Class, Component

FIELDS = {
    Class: ("kind", "name", "extends", "components", "equations", "initials"),
    Component: ("prefix", "kind", "name", "size", "changes", "value"),
}


def given(made):
    """Fresh values for all fields of a class of the package."""
    if made is Class:
        part = Component("", "Real", "x", None, [], None)
        return ["model", "M", [("N", [("x", num(1))])], [part], [("equal", num(1), num(2))],
                [("equal", num(3), num(4))]]
    return ["parameter", "Real", "x", num(3), [("start", num(1, 2)), ("y", [("z", num(1))])], num(5)]


OTHERS = {
    Class: ["connector", "N", [("N", [("x", num(2))])], [Component("", "Real", "y", None, [], None)],
            [("equal", num(1), num(3))], []],
    Component: ["", "Integer", "y", None, [("start", num(1, 2)), ("y", [("z", num(2))])], num(5, 2)],
}


class EqualTest(unittest.TestCase):
    def test_fields(self):
        for made, names in FIELDS.items():
            item = made(*given(made))
            self.assertEqual(list(vars(item)), list(names))
            self.assertEqual([getattr(item, name) for name in names], given(made))
            self.assertEqual(made(**dict(zip(names, given(made)))), item)

    def test_equal(self):
        for made in FIELDS:
            self.assertTrue(made(*given(made)) == made(*given(made)))
            self.assertFalse(made(*given(made)) != made(*given(made)))

    def test_another_field(self):
        for made, names in FIELDS.items():
            for k in range(len(names)):
                fields = given(made)
                fields[k] = OTHERS[made][k]
                self.assertFalse(made(*fields) == made(*given(made)), names[k])
                self.assertTrue(made(*fields) != made(*given(made)), names[k])

    def test_other_things(self):
        fields = ["model", "M", [], [], [], []]
        for other in (Component(*fields), None, "M", tuple(fields)):
            self.assertFalse(Class(*fields) == other)
            self.assertFalse(other == Class(*fields))


if __name__ == "__main__":
    unittest.main()
