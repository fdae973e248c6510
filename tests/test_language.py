import pathlib
import unittest

from rules import PACKAGE, faults

FOLDER = pathlib.Path(__file__).resolve().parent.parent / PACKAGE

# Each breaks the rule: (rule, text of the file).
BROKEN = [
    ("L2", "import os\n"),
    ("L2", "from os import path\n"),
    ("L2", "from . import errors\n"),
    ("L2", "from worldbridge.errors import *\n"),
    ("L2", "from worldbridge.errors import Bad as Worse\n"),
    ("L2", "K = 1\nfrom worldbridge.errors import Bad\n"),
    ("L2", "def f():\n    from worldbridge.errors import Bad\n    return Bad('x')\n"),
    ("L3", "print(1)\n"),
    ("L3", "if True:\n    K = 1\n"),
    ("L3", "K = [1]\n"),
    ("L3", "K = 1 // 0\n"),
    ("L4", "def f(a, /):\n    return a\n"),
    ("L4", "def f(a=[]):\n    return a\n"),
    ("L4", "def f():\n    def g():\n        return 1\n    return g()\n"),
    ("L4", "class C:\n    @staticmethod\n    def f():\n        return 1\n"),
    ("L5", "class C:\n    K = 1\n"),
    ("L5", "class C(dict):\n    pass\n"),
    ("L5", "class C:\n    def __hash__(self):\n        return 1\n"),
    ("L6", "def f():\n    global K\n    K = 1\n"),
    ("L6", "def f(a):\n    with a:\n        pass\n"),
    ("L6", "def f(a):\n    del a.b\n"),
    ("L6", "def f(a):\n    a\n"),
    ("L7", "def f(a):\n    return a / 2\n"),
    ("L7", "def f():\n    return 1.5\n"),
    ("L7", "def f(a):\n    return f'{a:>5}'\n"),
    ("L7", "def f(a):\n    return [*a]\n"),
    ("L8", "def f(a):\n    return hash(a)\n"),
    ("L8", "def f(a):\n    return a.__class__\n"),
    ("L8", "def len(a):\n    return a\n"),
    ("L9", "def f(a):\n    print(a)\n"),
    ("L10", "def f(a):\n" + "    a = 1\n" * 40),
    ("L10", "K = 1\n" * 402),
    ("L10", "K = '" + "x" * 120 + "'\n"),
    ("L10", "def f(a):\n\treturn a\n"),
    ("L11", "def f(a):\n    return f(a)\n"),
    ("L12", "def f(_):\n    return 1\n"),
    ("L12", "def f(a):\n    return a._b\n"),
    ("L13", "def f(a):\n    return sorted(a, key=lambda x: x)\n"),
    ("L14", "K = '\u00e4'\n"),
    ("L15", "K = 1\nK = 2\n"),
    ("L15", "def f(id):\n    return id\n"),
    ("L15", "from worldbridge.errors import Bad\n\n\ndef f():\n    Bad = 1\n    return Bad\n"),
    ("L16", "from worldbridge.errors import Worse\n"),
    ("L16", "from worldbridge.sample import K\n\nK = 1\n"),
    ("L17", "# what type it has\n"),
    ("L17", "K = 'mydataclass'\n"),
    ("L17", "def f(a):\n    return a.mro\n"),
    ("L17", "def f(vars):\n    return vars\n"),
    ("L18", "class C:\n    def f(self):\n        return 1\n\n    def f(self):\n        return 2\n"),
    ("L18", "class C:\n    def f(self):\n        self.f = 1\n"),
    ("L18", "class C:\n    def f(self):\n        return self.g\n"),
    ("L18", "class C:\n    def f(self):\n        return C\n"),
    ("L19", "def f(a):\n    raise a\n"),
    ("L19", "def f(a):\n    raise ValueError('x')\n"),
    ("L19", "def f(a):\n    try:\n        return a\n    except TypeError:\n        return 1\n"),
    ("L19", "def f(a):\n    try:\n        return a\n    except:\n        return 1\n"),
    ("L20", "def f(a, b):\n    return a is b\n"),
    ("L20", "def f(a):\n    return a is 1\n"),
    ("L21", "def f(a: int):\n    return a\n"),
    ("L21", "def f(a):\n    b: int = a\n    return b\n"),
    ("L22", "def f(a):\n    return isinstance(a, object)\n"),
    ("L22", "def f(a):\n    b = len\n    return b(a)\n"),
    ("L22", "def f(a):\n    return int(a, base=2)\n"),
    ("L22", "def f(a):\n    return a\n\n\ndef g():\n    return f(1, 2)\n"),
    ("L22", "class C:\n    def __init__(self, a):\n        self.b = a\n\n\ndef g():\n    return C()\n"),
    ("L22", "from worldbridge.errors import Bad\n\n\ndef g():\n    raise Bad(why='x')\n"),
    ("L23", "def f(a):\n    return zip(a, a)\n"),
    ("L23", "def f(a):\n    b = a.items()\n    return b\n"),
    ("L23", "def f(a):\n    yield a\n"),
    ("L23", "def f(a):\n    return any(b for b in a)\n"),
    ("L23", "def f(a):\n    for b in a:\n        a.pop()\n"),
    ("L23", "def f(a):\n    for b, c in a.items():\n        del a[b]\n"),
    ("L23", "def f(a):\n    for b, c in enumerate(a):\n        a[b] = 1\n"),
    ("L24", "def f(a):\n    return {a}\n"),
    ("L24", "def f(a):\n    return len(set(a))\n"),
    ("L25", "def f(a):\n    return a.as_integer_ratio()\n"),
    ("L25", "def f(a):\n    return a.split(sep='x')\n"),
    ("L25", "def f(a):\n    b = a.append\n    b(1)\n"),
    ("L26", "class C:\n    def decode(self):\n        return 1\n"),
    ("L26", "class C:\n    def __init__(self):\n        self.items = 1\n"),
    ("L27", "def f(a):\n    return 2 ** a\n"),
    ("L27", "K = '%'\n"),
    ("L27", "K = '\\x41'\n"),
    ("L27", "def f(a):\n    return chr(a)\n"),
    ("L27", "K = 'x._'\n"),
    ("L27", "def f(a):\n    return 1if a else 2\n"),
    ("L28", "class C:\n    def __init__(self):\n        return None\n"),
    ("L28", "class C:\n    def f(self):\n        return super().f()\n"),
    ("L28", "def __len__(a):\n    return 1\n"),
]
ERRORS = "class Bad(ValueError):\n    pass\n"


class Package(unittest.TestCase):
    def test_the_folder_has_python_files_only(self):
        found = [path for path in FOLDER.iterdir() if path.name != "__pycache__"]
        self.assertTrue(all(path.is_file() and path.suffix == ".py" for path in found), found)

    def test_every_file_keeps_the_rules(self):
        sources = {path.name: path.read_text(encoding="utf-8") for path in sorted(FOLDER.glob("*.py"))}
        self.assertIn("__init__.py", sources)
        self.assertEqual(faults(sources), [])


class Checks(unittest.TestCase):
    def test_each_broken_rule_is_found(self):
        for rule, text in BROKEN:
            with self.subTest(rule=rule, text=text):
                found = faults({"errors.py": ERRORS, "sample.py": text})
                self.assertIn(rule, [fault[0] for fault in found], found)

    def test_every_rule_has_a_check(self):
        rules = {rule for rule, text in BROKEN} | {"L1"}
        self.assertEqual(rules, {f"L{number}" for number in range(1, 29)})

    def test_names_of_files(self):
        for rule, name in (("L1", "a-b.py"), ("L14", "Upper.py"), ("L14", "test_a.py"), ("L14", "len.py")):
            with self.subTest(name):
                self.assertIn(rule, [fault[0] for fault in faults({name: "K = 1\n"})])


if __name__ == "__main__":
    unittest.main()
