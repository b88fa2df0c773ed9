"""That the program keeps to the rules of ../shared/LANGUAGE.md, as far as tests/language.py knows them."""

import os
import unittest

from tests.language import breaches
from tests.purity import changes

FOLDER = os.path.join(os.path.dirname(os.path.dirname(os.path.abspath(__file__))), "movedstates")

WRONG = [
    "import os", "from movedstates.one import missing", "from os import path", "x, y = 1, 2", "x = len([])", "print('a')",
    "def f(x):\n    global y\n    y = x", "def f(x):\n    return x / 2", "def f(x):\n    return 1.5", "def f(id):\n    return id",
    "def f(x):\n    return {y for y in x}", "def f(x):\n    return set(x)", "def f(x):\n    return any(y for y in x)",
    "def f(x):\n    y = zip(x, x)\n    return y", "def f(x):\n    return x.sort()", "def f(x):\n    return x is f",
    "def f(x):\n    try:\n        return x[0]\n    except IndexError:\n        return 1", "def f(x):\n    raise x",
    "def f(x):\n    return '%s'", "def f(x):\n    return eval(x)", "def f(x):\n    return x.__class__", "def f(x):\n    return 2 ** x",
    "def f(x, y=[]):\n    return y", "def f(x: int):\n    return x", "@f\ndef g(x):\n    return x", "def f(x):\n    elements = x",
    "class A:\n    def keep(self):\n        self.keep = 1", "class A:\n    def __iter__(self):\n        return self.rows",
    "class A:\n    def __hash__(self):\n        return 1", "class A:\n    x = len([])", "def f(x):\n    return x.encode",
    "def f(x):\n    return '" + "a" * 120 + "'", "def f(x):\n" + "    x = x\n" * 40, "x = 1\nx = 2", "def f(x):\n\treturn x",
    "def f(x):\n    return x.items()", "def f(x):\n    yield x\n\n\ndef g(x):\n    return f(x)", "def f(x):\n    kind = 'type'",
    "def f(x):\n    with x[0] as y:\n        return y", "def f(x):\n    with x as y.z:\n        return y",
    "class A:\n    def __exit__(self, kind, value, trace):\n        self.f()", "class A:\n    def __exit__(self):\n        self.x = 1",
    "class A:\n    def __exit__(self, kind, value, trace):\n        x = self.x", "class A:\n    def __enter__(self, x):\n        return x",
    "class A:\n    def __exit__(self, kind, value, trace):\n        self.x = f(1)",
    "class A:\n    def f(self):\n        return super().rows", "class A:\n    def __eq__(self, other):\n        return super().__eq__(other)",
]

WALKED = [
    "for y in x:\n        x.append(y)", "for y in x.rows:\n        x.rows.pop()", "for at, y in enumerate(x):\n        x[at] = y",
    "for y, z in x.items():\n        del x[y]", "for y in [] if z else x:\n        x.clear()", "for y in x or z:\n        z += [y]",
    "for y in x.rows:\n        x.rows = [y]", "for y in x.rows:\n        z.others.append(y)", "for y in x[0]:\n        x[1].append(y)",
    "for y in z:\n        for y in x:\n            z.append(y)", "return [x.pop() for y in x]", "return {y: x.rows.pop() for y in z.rows}",
]

NOT_WALKED = [
    "for y in list(x):\n        x.append(y)", "for y in sorted(x.rows):\n        x.rows.append(y)", "for y in x:\n        z.append(y)",
    "for y in x.rows:\n        z.append(y)", "for y in range(len(x)):\n        x[y] = 0", "x.rows.extend([y for y in z.rows])",
    "for y in x:\n        return y\n    x.append(z)",
]

CHANGING = [
    "class A:\n    def __eq__(self, other):\n        self.x = 1\n        return True",
    "class A:\n    def __add__(self, other):\n        f(other)\n        return self\n\n\ndef f(x):\n    x.append(1)",
    "class A:\n    def __len__(self):\n        return self.f()\n\n    def f(self):\n        self.x[0] = 1\n        return 1",
    "class A:\n    @property\n    def x(self):\n        rows = self.rows\n        rows.pop()\n        return 1",
    "class A:\n    def __add__(self, other):\n        return B(other)\n\n\nclass B:\n    def __init__(self, x):\n        x.clear()",
    "class A:\n    def __add__(self, other):\n        return f(other)\n\n\ndef f(x):\n    return x(1)",
    "class A:\n    def __bool__(self):\n        total = 0\n        total += f(self)\n        return total > 0\n\n\ndef f(x):\n    return 1",
]


def texts():
    found = {}
    for name in sorted(os.listdir(FOLDER)):
        if name != "__pycache__":
            with open(os.path.join(FOLDER, name), encoding="utf-8") as file:
                found[name[:-3] if name.endswith(".py") else name] = file.read()
    return found


class LanguageTest(unittest.TestCase):

    def test_the_program(self):
        self.assertEqual(breaches(texts()), [])

    def test_operators_and_properties_change_nothing(self):
        self.assertEqual(changes(texts()), [])
        for text in CHANGING:
            with self.subTest(text):
                self.assertEqual(len(changes({"one": text})), 1)
        self.assertEqual(changes({"one": "class A:\n    def __add__(self, other):\n        x = []\n        x.append(1)\n        return x"}), [])

    def test_the_folder(self):
        self.assertTrue(all(name == "__pycache__" or name.endswith(".py") for name in os.listdir(FOLDER)))
        self.assertIn("__init__", texts())

    def test_what_is_wrong_is_found(self):
        for text in WRONG:
            with self.subTest(text):
                self.assertNotEqual(breaches({"one": text + "\n"}), [])

    def test_changes_of_what_is_walked_are_found(self):
        for row in WALKED + NOT_WALKED:
            with self.subTest(row):
                found = breaches({"one": f"def f(x, z):\n    {row}\n"})
                self.assertEqual([what[:3] for what in found], ["L23"] if row in WALKED else [])

    def test_circles_are_found(self):
        one, other = "from movedstates.other import f\n\n\ndef g():\n    return f()\n", (
            "from movedstates.one import g\n\n\ndef f():\n    return g()\n")
        self.assertNotEqual(breaches({"one": one, "other": other}), [])


if __name__ == "__main__":
    unittest.main()
