"""The package keeps to shared/LANGUAGE.md, as far as a test can see it."""

import pathlib
import unittest
import warnings

from tests.language import complaints

PACKAGE = pathlib.Path(__file__).resolve().parent.parent / "rowqueue"

# Each of these breaks a rule.
BAD = {
    "L1": {"Bad.py": ""},
    "L2": {"a.py": "def f():\n    return 1\n\n\nfrom math import gcd\n", "b.py": "from .a import f\n"},
    "L3": {"a.py": "for k in (1, 2):\n    pass\n"},
    "L4": {"a.py": "def f(g):\n    return g\n\n\n@f\ndef h():\n    return 1\n"},
    "L5": {"a.py": "class A:\n    @property\n    def x(self):\n        return 1\n\n\ndef f(a):\n    a.x = 1\n"},
    "L6": {"a.py": "async def f():\n    return 1\n"},
    "L7": {"a.py": "def f(xs):\n    return any(x for x in xs)\n"},
    "L8": {"a.py": "def f(x):\n    return hash(x)\n"},
    "L10": {"a.py": "def f():\n" + "    f()\n" * 41},
    "L12": {"a.py": "def __f():\n    return 1\n"},
    "L13": {"a.py": "def f(x):\n    return x in {1, 2, 3}\n"},
    "L14": {"a.py": "NAME = '\u00e4'\n"},
    "L15": {"a.py": "def f(max):\n    return max\n"},
    "L16": {"a.py": "from rowqueue.b import B\n\nA = B\n", "b.py": "from rowqueue.a import A\n\nB = A\n"},
    "L17": {"a.py": "NAME = 'dataclasses'\n"},
    "L18": {"a.py": "class A:\n    def f(self):\n        self.f = 1\n"},
    "L19": {"a.py": "def f():\n    raise ValueError()\n"},
    "L20": {"a.py": "def f(x):\n    return x is f\n"},
    "L22": {"a.py": "def f(x):\n    return sum(x, start=[])\n"},
    "L23": {"a.py": "def f(x):\n    y = zip(x, x)\n    return list(y)\n"},
    "L25": {"a.py": "def f(x):\n    return x.format(1)\n"},
    "L26": {"a.py": "class A:\n    def f(self):\n        self.args = 1\n"},
    "L27": {"a.py": "NAME = '%'\n"},
    "L28": {"a.py": "class A:\n    def __len__(self):\n        return self.n\n"},
    "unused": {"a.py": "from math import gcd\n"},
}


class Language(unittest.TestCase):
    def test_the_package_keeps_to_it(self):
        files = {path.name: path.read_text(encoding="utf-8") for path in PACKAGE.glob("*.py")}
        self.assertIn("__init__.py", files)
        self.assertLessEqual(len(files), 100)
        self.assertEqual(complaints(files), [])

    def test_the_folder_contains_nothing_else(self):
        for path in PACKAGE.iterdir():
            self.assertTrue(path.suffix == ".py" or path.name == "__pycache__", path)

    def test_python_gives_no_warning(self):
        with warnings.catch_warnings():
            warnings.simplefilter("error")
            for path in PACKAGE.glob("*.py"):
                compile(path.read_text(encoding="utf-8"), path.name, "exec")

    def test_an_operator_that_changes_something_is_seen(self):
        for row in ["self.n = 1", "n = 0\n        n += other"]:
            text = f"class A:\n    def __mul__(self, other):\n        {row}\n        return self\n"
            self.assertIn("L5", [complaint.split(" ")[0] for complaint in complaints({"a.py": text})])

    def test_what_breaks_a_rule_is_seen(self):
        self.assertEqual(complaints({"a.py": "def f(x):\n    return x\n"}), [])
        for rule, files in BAD.items():
            found = [complaint.split(" ")[0] for complaint in complaints(files)]
            self.assertIn(rule, found)


if __name__ == "__main__":
    unittest.main()
