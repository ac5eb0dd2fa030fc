"""What runs by a sign or by reading a property changes nothing, calls nothing that it is handed, and does not yield."""

import ast
import textwrap
import unittest

from sources import Function, Sources, parsed
from test_language import BUILTINS, LIBRARY

KNOWN = BUILTINS.union(*LIBRARY.values())
KNOWN_METHODS = {"append", "extend", "items", "values", "index", "count", "setdefault", "get", "remove", "join"}

DAYSET = ["__eq__", "__bool__", "__contains__", "__or__", "__and__", "__sub__", "__xor__", "__invert__",
          "start", "period", "head", "cycle", "is_finite"]
RUNS = ["__eq__", "__bool__", "__contains__", "__or__", "__and__", "__sub__", "__xor__", "parts"]
MOMENT = ["__eq__", "__lt__", "__le__", "__gt__", "__ge__", "__add__", "__sub__",
          "zone", "instant", "offset", "reading", "day", "second", "date"]
ZONE = ["__eq__", "told", "form"]


def package():
    return Sources([tree for _, _, tree in parsed()])


def sample(text):
    return Sources([ast.parse(textwrap.dedent(text))])


def unknown_calls(sources, function):
    """The names that a function calls, but that are none of the package, of Python, or of the library."""
    found = []
    for call, name in function.calls():
        known = KNOWN_METHODS if isinstance(call.func, ast.Attribute) else KNOWN.union(sources.bases)
        if name not in known and not sources.meant(call, name):
            found.append(name)
    return found


def names(functions):
    return [one.name for one in functions]


class PackageTest(unittest.TestCase):

    def test_roots(self):
        documented = [("DaySet", DAYSET), ("Runs", RUNS), ("Moment", MOMENT), ("Zone", ZONE)]
        expected = [f"{kind}.{name}" for kind, methods in documented for name in methods]
        self.assertEqual(sorted(names(package().roots())), sorted(expected))

    def test_reach(self):
        sources = package()
        reached = {root.name: names(sources.reached(root)) for root in sources.roots()}
        self.assertLessEqual({"DaySet.__init__", "DaySet._listed", "place_of"}, set(reached["DaySet.__or__"]))
        self.assertLessEqual({"Runs.__init__", "check_second", "BadNumber.__init__"}, set(reached["Runs.__and__"]))
        self.assertLessEqual({"Zone.offset_at", "last_change", "year_of"}, set(reached["Moment.offset"]))

    def test_no_root_reaches_a_generator(self):
        self.assertEqual(package().wrong(Function.yields), [])

    def test_no_root_changes_what_it_did_not_create(self):
        self.assertEqual(package().wrong(Function.changed), [])

    def test_no_root_calls_what_it_is_handed_or_holds(self):
        sources = package()
        self.assertEqual(sources.wrong(lambda one: unknown_calls(sources, one)), [])


class SourcesTest(unittest.TestCase):
    """The tests above find what they look for."""

    def test_all_methods_of_a_name_are_meant(self):
        sources = sample("""
            class Box:
                def __or__(self, other):
                    return other._listed(0)

                def _listed(self, low):
                    return []

            class Shelf:
                def _listed(self, low):
                    return [box for box in boxes(low)]

            def boxes(low):
                yield low

            def _listed(low):
                yield low
        """)
        self.assertEqual(names(sources.reached(sources.roots()[0])),
                         ["Box.__or__", "Box._listed", "Shelf._listed", "boxes"])
        self.assertEqual(sources.wrong(Function.yields), [("Box.__or__", "boxes")])

    def test_class_methods_and_constructors(self):
        sources = sample("""
            class Low:
                def __init__(self, rows):
                    self.rows = list(steps(rows))

            class Box(Low):
                def __contains__(self, row):
                    return row in self.kept(row)

                def kept(self, row):
                    return Shelf.of([row])

            class Shelf:
                @classmethod
                def of(cls, rows):
                    return cls(rows)

                def __init__(self, rows):
                    self.box = Box(rows)

            def steps(rows):
                yield from rows
        """)
        self.assertEqual(sources.wrong(Function.yields), [("Box.__contains__", "steps")])

    def test_properties_and_loops(self):
        sources = sample("""
            class Box:
                @property
                def many(self):
                    return one(self)

            def one(box):
                return other(box)

            def other(box):
                return one(box) + sum(rows(box))

            def rows(box):
                for row in box.rows:
                    yield row
        """)
        self.assertEqual(sources.wrong(Function.yields), [("Box.many", "rows")])

    def test_unknown_calls(self):
        sources = sample("""
            class Box:
                def __init__(self, test):
                    self.test = test

                def __contains__(self, row):
                    return bool(self.test(row)) and row(1) and self.rows[0](len(row)) and low(row) and Box(low)

            def low(row):
                return row.low()
        """)
        self.assertEqual(set(unknown_calls(sources, sources.functions[1])), {"test", "row", None})
        self.assertEqual(unknown_calls(sources, sources.functions[2]), ["low"])

    def test_changes(self):
        bodies = {
            "self.n = 1": ["self.n"],
            "other.rows[0] = 1": ["other.rows"],
            "del other[0]": ["other"],
            "self.rows.append(other)": ["self.rows"],
            "rows = other\nrows.append(1)": ["rows"],
            "rows = []\nfor rows in other:\n    rows.append(1)": ["rows"],
            "rows = []\nrows = other\nrows.extend([1])": ["rows"],
            "rows = {}\nrows.setdefault(1, []).append(2)": ["rows.setdefault(1, [])"],
            "other = []\nother.append(1)": ["other"],
            "rows = [1]\nrows.append(2)\nrows[0] = 3": [],
            "rows = other[1:]\nrows = sorted(other)\nrows.pop()": [],
            "rows = {row: 1 for row in other}\nrows[1] = 2\ndel rows[1]": [],
            "row = other[0]\nreturn self.rows[row]": [],
        }
        for body, expected in bodies.items():
            text = "class Box:\n    def __and__(self, other):\n" + textwrap.indent(body, "        ")
            with self.subTest(body=body):
                self.assertEqual(sample(text).functions[0].changed(), expected)

    def test_changes_in_init(self):
        text = "class Box:\n    def __init__(self, other):\n        self.n = 1\n        other.n = 2\n        self.rows[0] = 3\n"
        self.assertEqual(sample(text).functions[0].changed(), ["other.n", "self.rows"])


if __name__ == "__main__":
    unittest.main()
