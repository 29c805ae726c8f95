import ast
import pathlib
import unittest

from language import faults, faults_together

PACKAGE = pathlib.Path(__file__).resolve().parent.parent / "liarclocks"

OUTSIDE = (
    "import os\n",
    "from os import path\n",
    "from liarclocks.errors import *\n",
    "from liarclocks.errors import BadNumber as Bad\n",
    "HALF = 0.5\n",
    "print(1)\n",
    "WORD = 'type'\n",
    "WORD = 'a%b'\n",
    "# caf\u00e9\n",
    "A = 1\nA = 2\n",
    "A = [\n" + "    1,\n" * 400 + "]\n",
    "A = 1  # " + "a" * 120 + "\n",
    "class Box:\n    many = 1\n",
    "def f(*args):\n    return 1\n",
    "def f(x=[]):\n    return x\n",
    "def f(*, x=[]):\n    return x\n",
    "def f(x):\n    return x / 2\n",
    "def f(x):\n    return sum(y for y in x)\n",
    "def f(x):\n    return f'{x:3}'\n",
    "def f(x, y):\n    return x is y\n",
    "def f(x):\n    return hash(x)\n",
    "def f(min):\n    return 1\n",
    "def f(_x):\n    return 1\n",
    "def f(x):\n    for y in x:\n        pass\n    else:\n        pass\n",
    "def f(x):\n    with x:\n        pass\n",
    "def f(x):\n    raise ValueError\n",
    "def f(x):\n    return max(*x)\n",
    "from liarclocks.worths import middle\ndef f(middle):\n    return 1\n",
    "def f():\n" + "    x = 1\n" * 40 + "    return 1\n",
)

TOGETHER = (
    ("class A:\n    def far(self):\n        return 1\n", "class B:\n    def __init__(self):\n        self.far = 1\n"),
    ("class A:\n    def __init__(self):\n        self.far = 1\n", "def f(x):\n    return x.near\n"),
    ("class A:\n    def decode(self):\n        return 1\n",),
    ("class A:\n    def __init__(self):\n        self.real = 1\n",),
)


def files():
    return sorted(PACKAGE.rglob("*.py"))


def drawn_from(path):
    """The package's files, by their plain names, that one of them draws from."""
    tree = ast.parse(path.read_text("utf-8"))
    modules = [row.module for row in tree.body if isinstance(row, ast.ImportFrom) and row.module != "__future__"]
    return [module.split(".", 1)[1] for module in modules]


class Language(unittest.TestCase):
    def test_every_file_keeps_to_the_language(self):
        self.assertTrue(files())
        for path in files():
            with self.subTest(path.name):
                self.assertEqual(faults(path.read_text("utf-8"), "liarclocks"), [])

    def test_the_package_holds_nothing_else(self):
        for path in PACKAGE.iterdir():
            if path.name != "__pycache__":
                self.assertRegex(path.name, r"^[a-z_][a-z0-9_]*\.py$")

    def test_no_two_files_draw_from_one_another(self):
        drawn = {path.stem: drawn_from(path) for path in files()}
        self.assertEqual(drawn["__init__"], [])
        while drawn:
            free = [name for name, others in drawn.items() if not any(other in drawn for other in others)]
            self.assertTrue(free, f"these draw from one another: {sorted(drawn)}")
            drawn = {name: others for name, others in drawn.items() if name not in free}

    def test_what_leaves_the_language_is_found(self):
        for source in OUTSIDE:
            with self.subTest(source[:60]):
                self.assertTrue(faults(source, "liarclocks"))

    def test_all_files_together_keep_to_the_language(self):
        self.assertEqual(faults_together([path.read_text("utf-8") for path in files()]), [])

    def test_what_leaves_the_language_together_is_found(self):
        for sources in TOGETHER:
            with self.subTest(sources):
                self.assertTrue(faults_together(sources))

    def test_what_keeps_to_the_language_is_not_found(self):
        source = '"""Words."""\n\nfrom liarclocks.errors import BadNumber\n\nMOST = -5\n\n\n' \
                 'def f(xs, *, at=0):\n    if xs is None:\n        raise BadNumber(f"no {at + 1}")\n' \
                 '    return [x // 2 for x in xs[at:]]\n'
        self.assertEqual(faults(source, "liarclocks"), [])


if __name__ == "__main__":
    unittest.main()
