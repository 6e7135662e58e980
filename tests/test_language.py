"""The files of the package keep to the language rules, as far as language.py holds them to these."""

import pathlib
import tempfile
import unittest

import language

FOLDER = pathlib.Path(__file__).resolve().parent.parent / language.PACKAGE

# Each is against the rule that stands with it, and must be found.
WRONG = [
    ("L2", "from heapq import heappush\n"),
    ("L2", "from .plans import checked\n"),
    ("L2", "from stealyard.plans import *\n"),
    ("L2", "from stealyard.plans import checked as told\n"),
    ("L2", "A = 1\nfrom stealyard.plans import checked\n"),
    ("L6", "import stealyard.plans\n"),
    ("L3", "A = []\n"),
    ("L3", "A = B = 1\n"),
    ("L3", "A, B = 1, 2\n"),
    ("L3", "A = len('abc')\n"),
    ("L3", "print('a')\n"),
    ("L3", "for a in (1, 2):\n    pass\n"),
    ("L15", "A = 1\nA = 2\n"),
    ("L15", "def min(a):\n    return a\n"),
    ("L15", "def told(list):\n    return list\n"),
    ("L15", "A = 1\n\n\ndef told(A):\n    return A\n"),
    ("L4", "def told(a, b=1):\n    return a\n"),
    ("L4", "def told(*a):\n    return a\n"),
    ("L4", "@property\ndef told(a):\n    return a\n"),
    ("L4", "def told(a):\n    def other():\n        return a\n    return other()\n"),
    ("L21", "def told(a: int):\n    return a\n"),
    ("L5", "class Told:\n    pass\n"),
    ("L5", "class Told(ValueError):\n    def __init__(self):\n        self.a = 1\n"),
    ("L6", "def told(a):\n    global B\n    B = a\n"),
    ("L6", "def told(a):\n    yield a\n"),
    ("L6", "def told(a):\n    try:\n        return a[0]\n    except KeyError:\n        return 0\n"),
    ("L6", "def told(a):\n    return {b for b in a}\n"),
    ("L6", "def told(a):\n    return lambda: a\n"),
    ("L6", "def told(a):\n    return a / 2\n"),
    ("L6", "def told(a):\n    return [*a, 1]\n"),
    ("L3", "match 1:\n    case 1:\n        pass\n"),
    ("L6", "def told(a):\n    match a:\n        case [b, *c]:\n            return b\n"),
    ("L6", "def told(a):\n    match a:\n        case {'b': b}:\n            return b\n"),
    ("L6", "def told(a):\n    match a:\n        case int():\n            return a\n"),
    ("L6", "def told(a):\n    match a:\n        case 1 | 2:\n            return a\n"),
    ("L6", "def told(a):\n    match a:\n        case None:\n            return a\n"),
    ("L6", "def told(a):\n    match a:\n        case (b, 1) as c:\n            return b\n"),
    ("L6", "def told(a):\n    match a:\n        case (b, 1) if b:\n            return b\n"),
    ("L6", "def told(a):\n    match a:\n        case -1:\n            return a\n"),
    ("L6", "def told(a):\n    match a:\n        case (a, 1):\n            return a\n"),
    ("L6", "def told(a):\n    match a:\n        case (b, 1):\n            b = 2\n    return a\n"),
    ("L6", "def told(a):\n    match a:\n        case (b, 1):\n            pass\n    return b\n"),
    ("L6", "def told(a):\n    match a:\n        case (b, 1):\n            pass\n        case (c, 2):\n            return b\n"),
    (
        "L6",
        "def told(a):\n    match a:\n        case (b, c):\n            match c:\n                case (b, 1):\n"
        "                    return b\n",
    ),
    ("L15", "def told(a):\n    match a:\n        case ('b', len):\n            return a\n"),
    ("L15", "B = 1\n\n\ndef told(a):\n    match a:\n        case ('b', B):\n            return a\n"),
    ("L12", "def told(a):\n    match a:\n        case ('b', __c):\n            return a\n"),
    ("L27", "def told(a):\n    match a:\n        case _:\n            return a\n        case 1:\n            return 1\n"),
    ("L7", "def told(a):\n    return a * 0.5\n"),
    ("L7", "def told(a):\n    return f'{a:>5}'\n"),
    ("L7", "def told(a):\n    return f'{a!r}'\n"),
    ("L27", "def told(a):\n    return f'{a[\"b\"]}'\n"),
    ("L27", "def told(a):\n    return '%s'\n"),
    ("L27", "def told(a):\n    return a + 'b\\n'\n"),
    ("L27", "def told(a):\n    return a == 1if a else 2\n"),
    ("L8", "def told(a):\n    return print(a)\n"),
    ("L8", "def told(a):\n    return sum(map(len, a))\n"),
    ("L12", "def _(a):\n    return _\n"),
    ("L12", "def told(a):\n    _, b = a\n    return _\n"),
    ("L12", "def _wall(a):\n    return a\n"),
    ("L12", "def __told(a):\n    return a\n"),
    ("L12", "def told(a):\n    return a.__class__\n"),
    ("L17", "def told(a):\n    return 'namedtuple'\n"),
    ("L12/L17", "def told(f_back):\n    return f_back\n"),
    ("L18", "class Told(ValueError):\n    pass\n\n\ndef told(a):\n    return Told\n"),
    ("L19", "def told(a):\n    raise a\n"),
    ("L19", "def told(a):\n    raise a()\n"),
    ("L20", "def told(a, b):\n    return a is b\n"),
    ("L22", "def told(a):\n    return sorted(a, key=len)\n"),
    ("L22", "def told(a):\n    return [len, a]\n"),
    ("L23", "def told(a):\n    return range(a)\n"),
    ("L23", "def told(a):\n    b = enumerate(a)\n    return list(b)\n"),
    ("L23", "def told(a):\n    for b in a:\n        a.append(b)\n"),
    ("L23", "def told(a):\n    for b, c in enumerate(a):\n        a[b] = c\n"),
    ("L25", "def told(a):\n    return a.format(1)\n"),
    ("L25", "def told(a):\n    return a.count\n"),
    ("L10", "A = 1" + "  # long" * 20 + "\n"),
    ("L10", "A = 1\n" + "# b\n" * 400),
    ("L10", "def told(a):\n" + "    a = a + 1\n" * 39 + "    return a\n"),
    ("L14", "A = 1\t# b\n"),
    ("L14", "# caf\u00e9\n"),
]

RIGHT = [
    "",
    '"""A file."""\n\nfrom stealyard.errors import Early\n\nA = 1\nB = ("b", -1, None)\n',
    "def told(a):\n    _, b = a\n    return [c for c in b if c is not None], sorted(b)\n",
    "def told(a):\n    b = {}\n    for c, d in enumerate(a):\n        b[c] = d\n    return list(b.items())\n",
    (
        "def told(a):\n    match a:\n        case ('b', c, (_, d)):\n            return c, d\n"
        "        case (c, 1):\n            return c\n        case _:\n            return a\n"
    ),
    "class Told(ValueError):\n    \"\"\"Told.\"\"\"\n\n\ndef told(a):\n    raise Told(f'{a} of {len(a)}')\n",
]


class LanguageTest(unittest.TestCase):
    def test_the_package_has_no_fault(self):
        self.assertEqual(language.package_faults(FOLDER), [])

    def test_what_is_wrong_is_found(self):
        for rule, source in WRONG:
            with self.subTest(source):
                told = [fault for fault in language.file_faults(source) if fault.startswith(rule)]
                self.assertNotEqual(told, [], language.file_faults(source))

    def test_what_is_right_is_let_through(self):
        for source in RIGHT:
            with self.subTest(source):
                self.assertEqual(language.file_faults(source), [])

    def test_a_folder_with_other_files(self):
        with tempfile.TemporaryDirectory() as folder:
            for name in ("a.txt", "B.py", "c-d.py"):
                (pathlib.Path(folder) / name).write_text("")
            (pathlib.Path(folder) / "inner").mkdir()
            told = language.package_faults(folder)
            self.assertEqual(len([fault for fault in told if fault.startswith("L1 ")]), 4)
            self.assertIn("L14 no __init__.py", told)

    def test_imports_of_what_another_file_defines_and_in_a_round(self):
        sources = {
            "__init__": "",
            "a": "from stealyard.b import low\n\n\ndef high():\n    return low()\n",
            "b": "from stealyard.a import high\n\n\ndef low():\n    return high()\n",
            "c": "from stealyard.a import low\n",
        }
        told = language.import_faults(sources)
        self.assertEqual(len(told), 3)
        self.assertIn("L16 c.py: low isn't defined in stealyard.a", told)
        self.assertEqual(language.import_faults({"__init__": "", "a": "A = 1\n"}), [])


if __name__ == "__main__":
    unittest.main()
