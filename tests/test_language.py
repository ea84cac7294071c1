import os
import re
import unittest

import tossrow
from tests.language import Package

FOLDER = os.path.dirname(tossrow.__file__)

KEPT = {
    "__init__": "",
    "errors": '''"""Errors."""


class Odd(ValueError):
    """An odd one."""

    def __init__(self, row):
        super().__init__(f"row {row}")
        self.row = row
''',
    "boxes": '''"""Boxes."""

from box.errors import Odd

LIMIT = 4
SIGNS = ("a", "b", -1)


class Box:
    """A box."""

    def __init__(self, row):
        self._rows = [row]

    def rows(self, many=1):
        for at, row in enumerate(self._rows):
            if row is not None and at < many ** 2:
                return [*self._rows, row]
        return list(self._rows)


def made(row):
    """A box of a row."""
    if row == LIMIT:
        raise Odd(row)
    try:
        return Box(row)
    except Odd as odd:
        raise Odd(odd.row) from None
''',
}

# Lines that break a rule, as the only line of a function.
BROKEN_IN_FUNCTION = [
    ("L6", "global LIMIT"), ("L6", "lambda row: row"), ("L6", "row = {1, 2}"), ("L6", "row = {x for x in [row]}"),
    ("L6", "yield row"), ("L6", "row = sum(x for x in [row])"), ("L6", "with row:\n        pass"), ("L6", "row"),
    ("L6", "row = row / 2"), ("L6", "if (at := row):\n        pass"), ("L6", "row: int = 4"), ("L6", "del row"),
    ("L6", "match row:\n        case 1:\n            pass"), ("L6", "import os"), ("L6", "row = row @ row"),
    ("L7", "row = 1.5"), ("L7", "row = b'a'"), ("L7", "row = ..."), ("L7", "row = 2j"), ("L7", "row = f'{row!r}'"),
    ("L7", "row = f'{row:>4}'"), ("L7", "made(*row)"), ("L7", "row[0](4)"),
    ("L8", "print(row)"), ("L8", "row = set(row)"), ("L8", "row = chr(row)"), ("L8", "row = hash(row)"),
    ("L8", "row = map(str, row)"), ("L8", "row = unknown"), ("L8", "row = super"), ("L8", "row = type(row)"),
    ("L10", "row = 4" + " " * 120), ("L10", "row =\t4"), ("L10", "row = 4\n" + "    row = 4\n" * 40),
    ("L12", "__row = 4"), ("L12", "row__ = __row = 4"), ("L12", "_wall = 4"), ("L12", "for _ in row:\n        return _"),
    ("L12", "_record_1 = 4"), ("L14", "row = 'caf\u00e9'"), ("L14", "row = 4  # caf\u00e9"),
    ("L15", "Box = 4"), ("L15", "Odd = 4"), ("L15", "max = 4"), ("L15", "hash = 4"),
    ("L17", "vars = 4"), ("L17", "row.register()"), ("L17", "elements = 4"), ("L17", "row = 'a type of'"),
    ("L17", "row = row.f_back"), ("L18", "row = Box"), ("L18", "row = [Box]"), ("L18", "made(Odd)"), ("L18", "row = row.height"),
    ("L18", "made(row).many = 4"), ("L18", "row = row.append"),
    ("L19", "raise row"), ("L19", "raise made(row)"), ("L19", "raise Odd(row) from row.row"), ("L19", "raise Box(row)"),
    ("L19", "try:\n        made(row)\n    except ValueError:\n        pass"),
    ("L19", "try:\n        made(row)\n    except:\n        pass"),
    ("L19", "try:\n        made(row)\n    except (Odd, TypeError):\n        pass"),
    ("L20", "row = row is row"), ("L20", "row = row is not 4"),
    ("L22", "made()"), ("L22", "made(row, 4)"), ("L22", "made(way=row)"), ("L22", "row = len(obj=row)"),
    ("L22", "Box()"), ("L22", "made(row).rows(1, 2)"), ("L22", "Odd(1, 2)"), ("L22", "made(row, row=row)"),
    ("L23", "row = zip(row, row)"), ("L23", "row = range(4)"), ("L23", "return reversed(row)"), ("L23", "row = row.items()"),
    ("L23", "for at in row:\n        row.append(at)"), ("L23", "for at, x in enumerate(row):\n        row[at] = x"),
    ("L23", "for key in row.keys():\n        del row[key]"), ("L23", "for at in row:\n        row += [at]"),
    ("L23", "for row[0] in row:\n        pass"),
    ("L25", "row.sort()"), ("L25", "row = row.translate(row)"), ("L25", "row.popleft()"), ("L25", "row = row.split(sep='a')"),
    ("L27", "row = 2 ** row"), ("L27", "row = 2 ** 65"), ("L27", "row **= row"), ("L27", "row = '%'"), ("L27", "row = f'%{row}'"),
    ("L27", r"row = '\x41'"), ("L27", r"row = '\r'"), ("L27", "row = 4 + \\\n        4"), ("L27", "row = '__odd__'"),
    ("L27", "row = 'a._'"), ("L27", "row = 'f_code'"), ("L27", "row = 1if row else 2"), ("L27", "row = " + "9" * 901),
    ("L27", "row = 4 is row"), ("L27", r"row = '\d'"), ("L27", "row = f'''{row}\n    '''"),
    ("L4", "def inner():\n        pass"),
]

# Lines that break a rule behind all others of a file.
BROKEN_AT_MODULE_LEVEL = [
    ("L2", "import os"), ("L2", "from os import path"), ("L2", "from box.errors import Odd as Even"),
    ("L2", "from .errors import Odd"), ("L2", "from box.errors import *"), ("L2", "from box.more import Odd"),
    ("L2", "from box.errors import Odd"), ("L16", "from box.errors import LIMIT"),
    ("L3", "made(4)"), ("L3", "A, B = 1, 2"), ("L3", "A = B = 2"), ("L3", "A = [1]"), ("L3", "A = made(4)"),
    ("L3", "if LIMIT:\n    A = 4"), ("L3", "A = LIMIT + 1"), ("L3", "for A in SIGNS:\n    pass"), ("L3", "'''words'''"),
    ("L4", "def more(*rest):\n    pass"), ("L4", "def more(**rest):\n    pass"), ("L4", "def more(row, *, by):\n    pass"),
    ("L4", "def more(row, /):\n    pass"), ("L4", "def more(row=[]):\n    pass"), ("L4", "@made\ndef more():\n    pass"),
    ("L4", "@made\nclass More:\n    pass"), ("L21", "def more(row: int):\n    pass"), ("L21", "def more() -> None:\n    pass"),
    ("L6", "async def more():\n    pass"), ("L15", "LIMIT = 4"), ("L15", "def made():\n    pass"), ("L15", "sum = 4"),
    ("L15", "def more(Odd):\n    pass"), ("L15", "def more(id):\n    pass"), ("L17", "def more(type):\n    pass"),
    ("L17", "def open():\n    pass"), ("L17", "A = 'Enum'"), ("L12", "class _More:\n    pass"), ("L12", "def more_():\n    __a = 4"),
    ("L5", "class More:\n    LIMIT = 4"), ("L5", "class More:\n    def __len__(self):\n        return 0"),
    ("L5", "class More(dict):\n    pass"), ("L5", "class More(Box, Odd):\n    pass"),
    ("L18", "class More:\n    def a(self):\n        self.a = 4"),
    ("L18", "class More:\n    def a(self):\n        pass\n    def a(self):\n        pass"),
    ("L26", "class More:\n    def a(self):\n        self.items = 4"), ("L26", "class More:\n    def sort(self):\n        pass"),
    ("L26", "class More:\n    def encode(self):\n        pass"), ("L26", "class More:\n    def a(self):\n        self.real = 4"),
    ("L28", "class More:\n    def __init__(self):\n        return None"), ("L10", "\n" * 399),
]


def faults(changes):
    return Package("box", {**KEPT, **changes}).faults()


class TestLanguage(unittest.TestCase):
    def test_folder_contains_plain_files_alone(self):
        for name in os.listdir(FOLDER):
            if name != "__pycache__":
                self.assertRegex(name, r"^[a-z0-9_]+\.py$")
                self.assertTrue(os.path.isfile(os.path.join(FOLDER, name)))
        self.assertIn("__init__.py", os.listdir(FOLDER))

    def test_package_keeps_to_the_language(self):
        sources = {}
        for name in os.listdir(FOLDER):
            if name.endswith(".py"):
                with open(os.path.join(FOLDER, name), encoding="utf-8", newline="") as file:
                    sources[name.removesuffix(".py")] = file.read()
        self.assertEqual(Package("tossrow", sources).faults(), [])


class TestCheck(unittest.TestCase):
    """The check itself: it tells each of these faults, and none where there is none."""

    def test_tells_nothing_of_what_is_allowed(self):
        self.assertEqual(faults({}), [])

    def test_tells_faults_in_functions(self):
        for rule, line in BROKEN_IN_FUNCTION:
            with self.subTest(rule=rule, line=line):
                source = KEPT["boxes"] + "\n\ndef broken(row):\n    " + line + "\n"
                self.assertIn(rule, rules_of(faults({"boxes": source})))

    def test_tells_faults_at_module_level(self):
        for rule, line in BROKEN_AT_MODULE_LEVEL:
            with self.subTest(rule=rule, line=line):
                self.assertIn(rule, rules_of(faults({"boxes": KEPT["boxes"] + "\n\n" + line + "\n"})))

    def test_tells_imports_round_about_and_names_of_files(self):
        self.assertIn("L16", rules_of(faults({"errors": "from box.boxes import LIMIT\n" + KEPT["errors"]})))
        self.assertIn("L16", rules_of(faults({"more": "from box.boxes import Odd\n"})))
        for name in ("sum", "test_boxes", "law_a", "Boxes", "site", "math"):
            self.assertIn("L14", rules_of(faults({name: ""})))


def rules_of(told):
    return {re.match(r"L\d+", fault)[0] for fault in told}
