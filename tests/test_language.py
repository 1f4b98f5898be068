"""The program keeps to ../shared/LANGUAGE.md, and the check of it sees what breaks a rule."""

import pathlib
import unittest

from tests.language import PACKAGE, check

ROOT = pathlib.Path(__file__).resolve().parent.parent
TOWN = PACKAGE + "/town.py"

# For each rule code that breaks it, as the whole of one file.
BREAKING = {
    "L1": ["def f(:\n", "x = = 1\n"],
    "L2": [
        "import math\n", "from os import path\n", "from .records import Town\n", "from housenumbers.records import *\n",
        "from housenumbers.__main__ import x\n", "def f():\n    from housenumbers.records import House\n",
        "X = 1\nfrom housenumbers.other import Thing\n", "import sys\n",
    ],
    "L3": ["X = len('a')\n", "print(1)\n", "for x in (1, 2):\n    pass\n", "X = 1 + 1\n", "X = lambda a: a\n",
           "X = [y for y in (1, 2)]\n", "X = later\ndef later():\n    return 1\n", "X = {1, 2}\n"],
    "L4": ["def f(*a):\n    return a\n", "def f(**a):\n    return a\n", "def f(*, a):\n    return a\n",
           "def f(a=len('a')):\n    return a\n", "def g(f):\n    return f\n@g\ndef f():\n    return 1\n"],
    "L5": ["class A:\n    x = 1\n", "class A(int):\n    pass\n", "class A:\n    def __add__(self, other):\n        return 1\n",
           "class A(metaclass=B):\n    pass\n", "class A(ValueError, KeyError):\n    pass\n"],
    "L6": ["def f(x):\n    with x:\n        pass\n", "def f(x):\n    del x\n", "def f(x):\n    assert x\n",
           "def f(x):\n    global y\n", "def f(x):\n    a = b = x\n", "def f(x):\n    x == 1\n",
           "def f(x):\n    for a in x:\n        pass\n    else:\n        pass\n",
           "def f(x):\n    try:\n        x()\n    except KeyError:\n        pass\n    finally:\n        pass\n",
           "def f(x):\n    match x:\n        case 1:\n            pass\n",
           "def f(x):\n    try:\n        x()\n    except:\n        pass\n"],
    "L7": ["def f(x):\n    return x / 2\n", "def f(x):\n    x /= 2\n", "def f():\n    return 1.5\n", "def f():\n    return b'a'\n",
           "def f(x):\n    return [*x]\n", "def f(x):\n    return {a for a in x}\n", "def f(x):\n    return sum(a for a in x)\n",
           "def f(x):\n    return {a: 1 for a in x}\n", "def f(x):\n    return (y := x)\n", "def f(x):\n    yield x\n",
           "def f(x):\n    return [a for b in x for a in b]\n", "def f(x):\n    return [a for a in x if a if a]\n",
           "def f(x):\n    return f'{x + 1}'\n", "def f(x):\n    return f'{x:3}'\n", "def f(x):\n    return f'{x!s}'\n",
           "def f(x):\n    return {**x}\n", "def f(x):\n    return f(**x)\n"],
    "L8": ["def f(x):\n    return hash(x)\n", "def f(x):\n    return y\n", "def f(len):\n    return len\n",
           "def f(x):\n    return x.format(1)\n", "def f(x):\n    return map(f, x)\n", "def __f():\n    return 1\n"],
    "L9": ["def f(x):\n    print(x)\n", "def f():\n    return input()\n", "def f(x):\n    return open(x)\n"],
    "L10": ["def f():\n" + "    pass\n" * 40, "X = 1\n" * 401, "X = '" + "a" * 120 + "'\n", "def f():\n\treturn 1\n"],
    "L11": ["def f(x):\n    try:\n        x()\n    except KeyError as e:\n        return str(e)\n",
            "def f(x):\n    return f(x - 1)\n", "def f(x):\n    return g(x)\ndef g(x):\n    return f(x)\n"],
    "L12": ["def f(_x):\n    return 1\n", "def f(x):\n    for _ in x:\n        pass\n", "_X = 1\n",
            "def f(x):\n    x._y = 1\n"],
    "L13": ["def f():\n    return sorted({1, 2, 3})\n", "def f(x):\n    return g(lambda a: 1, lambda a: 2)\n"],
    "L14": ["X = '\u00e4'\n", "# \u2192\nX = 1\n"],
    "L15": ["X = 1\nX = 2\n", "def f():\n    class A:\n        pass\n", "X = [[1]]\n", "X = {1: [1]}\n",
            "X = [1]\ndef f():\n    X.append(2)\n", "X = [1]\ndef f():\n    X[0] = 2\n", "X = [1]\ndef f():\n    return X\n",
            "X = {1: 2}\ndef f(g):\n    return g(X)\n", "class A:\n    pass\ndef f(A):\n    return 1\n",
            "from housenumbers.other import Thing\ndef f():\n    Thing = 1\n", "def f(hash):\n    return 1\n",
            "def f(x):\n    for next in x:\n        pass\n", "def f():\n    return 1\ndef f():\n    return 2\n",
            "from housenumbers.other import LIST\ndef f():\n    return LIST\n"],
    "L16": ["from housenumbers.other import missing\n", "from housenumbers import other\n",
            "from housenumbers.drawing import drawn\ndef own():\n    return 1\n", "from housenumbers.drawing import own\n",
            "import housenumbers.other\n"],
    "L17": ["def f(x):\n    return x.elements\n", "def register():\n    return 1\n", "def f(x):\n    return x.f_back\n",
            "def vars():\n    return 1\n", "def f(x):\n    return getattr(x, 'a')\n", "# of that type\nX = 1\n",
            "X = 'Enum'\n", "X = 'mydataclasses'\n", "def f():\n    return __name__\n"],
    "L18": ["class A:\n    pass\ndef f():\n    return A\n", "class A:\n    pass\ndef f():\n    return [A]\n",
            "class A:\n    pass\ndef f():\n    A.x = 1\n", "class A(StopIteration):\n    pass\n",
            "class A:\n    def x(self):\n        return 1\nclass B:\n    def __init__(self):\n        self.x = 1\n",
            "class A:\n    def x(self):\n        return 1\n    def x(self):\n        return 2\n"],
    "L19": ["def f(x):\n    try:\n        x()\n    except Exception:\n        pass\n",
            "def f(x):\n    try:\n        x()\n    except (KeyError, TypeError):\n        pass\n",
            "def f(x):\n    raise x\n", "def f(x):\n    raise KeyError\n", "def f(x):\n    raise KeyError('a') from x\n",
            "def f(x):\n    try:\n        x()\n    except KeyError:\n        raise\n"],
    "L20": ["def f(x, y):\n    return x is y\n", "def f(x):\n    return x is not 1\n"],
    "L21": ["X: int = 1\n", "def f(x: int):\n    return x\n", "def f() -> int:\n    return 1\n", "def f():\n    x: int\n"],
    "L22": ["def f(g):\n    return g(len)\n", "def f():\n    g = len\n    return g\n", "def f(x):\n    return sorted(x, key=repr)\n",
            "def f(x, y):\n    return sorted(x, reverse=y)\n", "def f(x):\n    return int(x, base=2)\n",
            "def f(x):\n    return x.split(sep='a')\n", "def f(x):\n    return isinstance(x, set)\n"],
    "L23": ["def f(x):\n    y = range(3)\n    return y\n", "def f(x):\n    return x.items()\n",
            "def f(x):\n    for a in x:\n        x.append(a)\n", "def f(x):\n    for k, a in enumerate(x):\n        x[k] = 1\n",
            "def f(x):\n    for k, a in x.items():\n        x.pop(k)\n", "def f(x):\n    return 1 in range(3)\n",
            "def f(x):\n    for a in reversed(range(3)):\n        pass\n", "def f(x):\n    return max(range(3), default=0)\n"],
    "L24": ["def f(x):\n    y = set(x)\n    return y\n", "def f(x):\n    for a in set(x):\n        pass\n",
            "def f(x):\n    return list(set(x))\n", "def f(x):\n    return sorted(set(x), reverse=True)\n"],
    "L25": ["def f(x):\n    x.sort()\n", "def f(x):\n    return x.title()\n", "def f(x):\n    y = x.append\n    return y\n",
            "def f(x):\n    return x.encode()\n"],
    "L26": ["class A:\n    def sort(self):\n        return 1\n", "class A:\n    def __init__(self):\n        self.items = 1\n",
            "class A:\n    def __init__(self):\n        self.args = 1\n", "class A:\n    def __init__(self):\n        self.real = 1\n"],
    "L27": ["def f(n):\n    return 2 ** n\n", "def f():\n    return 2 ** 65\n", "X = '5 %'\n", "def f(x):\n    return chr(x)\n",
            "X = '\\x41'\n", "X = '\\r'\n", "X = " + "9" * 901 + "\n"],
    "L28": ["class A:\n    def __init__(self):\n        return None\n", "class A:\n    def __len__(self):\n        return 1\n"],
}

KEEPING = '''"""A text."""

from housenumbers.other import LIST, Thing

NONE = -1
PAIRS = ((1, "a"), (2, "b"))


class Refused(ValueError):
    """An error of its own."""


class Box:
    def __init__(self, size):
        self.size = size
        self.things = []

    def add(self, thing):
        self.things.append(thing)


def walk(box, side=0):
    found = {}
    for place, thing in enumerate(box.things):
        if thing is None or thing in LIST:
            continue
        found[place] = f"{thing!r} {side}"
    while len(found) > 3 and 0 <= side:
        found.pop(side)
        side -= 1
    try:
        return found[side]
    except KeyError as e:
        raise Refused("none") from e


def sizes(boxes):
    made = [Thing() for box in boxes if isinstance(box, Box)]
    if any([box.size == 2 ** 8 for box in boxes]) or len(set(boxes)) == 2:
        return max([box.size for box in boxes], default=NONE)
    return sorted(made, key=lambda one: one.weight, reverse=True)[0:2]
'''

OTHERS = {
    PACKAGE + "/__init__.py": '"""The package."""\n',
    PACKAGE + "/other.py": "LIST = [1, 2]\n\n\nclass Thing:\n    def __init__(self):\n        self.weight = 1\n",
}
DRAWING = {PACKAGE + "/drawing.py": "from housenumbers.town import own\n\n\ndef drawn():\n    return own()\n"}


def package_files():
    """The package's files as they lie here, but what Python itself puts down."""
    found = {}
    for path in sorted((ROOT / PACKAGE).rglob("*")):
        if path.is_file() and "__pycache__" not in path.parts:
            found[path.relative_to(ROOT).as_posix()] = path.read_bytes()
    return found


def encoded(files):
    return {path: text.encode("utf-8") for path, text in files.items()}


class TheProgram(unittest.TestCase):
    def test_keeps_to_every_rule(self):
        files = package_files()
        self.assertIn(TOWN, files)
        self.assertEqual(check(files), [])


class TheCheck(unittest.TestCase):
    def test_lets_pass_what_keeps_to_the_rules(self):
        self.assertEqual(check(encoded({**OTHERS, TOWN: KEEPING})), [])

    def test_every_rule_has_its_samples(self):
        self.assertEqual(list(BREAKING), [f"L{number}" for number in range(1, 29)])

    def test_sees_what_breaks_a_rule(self):
        for rule, samples in BREAKING.items():
            for sample in samples:
                with self.subTest(rule=rule, sample=sample[:200]):
                    others = {**OTHERS, **DRAWING} if "drawing" in sample else OTHERS
                    found = check(encoded({**others, TOWN: sample}))
                    self.assertIn((rule, TOWN), [(one[0], one[1]) for one in found])

    def test_sees_files_that_do_not_belong(self):
        for rule, path in (
            ("L1", PACKAGE + "/notes.txt"), ("L1", PACKAGE + "/a-b.py"), ("L14", PACKAGE + "/Town.py"),
            ("L14", PACKAGE + "/test_town.py"), ("L14", PACKAGE + "/tests/__init__.py"), ("L14", PACKAGE + "/filter.py"),
            ("L14", PACKAGE + "/enum.py"), ("L14", PACKAGE + "/inner/__main__.py"), ("L14", "elsewhere/__init__.py"),
        ):
            with self.subTest(path=path):
                found = check(encoded({**OTHERS, path: "X = 1\n"}))
                self.assertIn((rule, path), [(one[0], one[1]) for one in found])

    def test_sees_a_folder_without_init(self):
        found = check(encoded({TOWN: "X = 1\n"}))
        self.assertEqual([(one[0], one[1]) for one in found], [("L14", PACKAGE)])

    def test_sees_what_is_not_utf_8(self):
        found = check({**encoded(OTHERS), TOWN: b"# \xff\nX = 1\n"})
        self.assertIn(("L1", TOWN), [(one[0], one[1]) for one in found])

    def test_sees_a_way_round_through_init(self):
        files = {PACKAGE + "/__init__.py": "from housenumbers.town import f\n", TOWN: "from housenumbers.far import g\n"
                 "\n\ndef f():\n    return g()\n", PACKAGE + "/far.py": "def g():\n    return 1\n"}
        self.assertIn(("L16", TOWN), [(one[0], one[1]) for one in check(encoded(files))])


if __name__ == "__main__":
    unittest.main()
