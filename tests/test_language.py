"""Tests of the files of the package: whether they keep to the language that the program is written in."""

import ast
import importlib
import inspect
import pathlib
import re

from tests.checking import Checking
from tests.language import METHODS, breaches

PACKAGE = pathlib.Path(__file__).resolve().parent.parent / "websolids"
INTERFACE = {
    "ratios": "is_ratio ratio ratio_text parse_ratio",
    "space": "is_point is_flat_point is_plane plane_through turned_plane side turn foot meeting between",
    "webs": "is_web made_web neighbours degree are_tied with_tie without_tie is_joined parts_without renamed",
    "ways": "is_way is_ring is_plain_ring shortest_way plain_ring has_chord",
    "webtexts": "web_text parse_web",
    "partings": "parting is_parting least_cut is_three_joined",
    "threeways": "most_separate separate_ways are_separate cut_between is_cut three_ways is_three_ways",
    "maps": "is_map rings_of ring_left_of mirror map_of_rings",
    "drawing": "blocks drawn",
    "barred": "is_barred barred_part can_be_drawn",
    "faces": "is_face faces faces_at the_map faces_by_rings",
    "turned": "turned back_names",
    "codes": "writing code is_code chart_of_code renamed_chart is_naming is_kept are_alike naming own_namings",
    "equations": "solved_equations is_solution",
    "middles": "placed is_at_middles is_placed ring_area rings_around",
    "lifting": "slopes lifted height_at pulls lifted_solid",
    "solids": "is_solid planes web_of map_of inside where faces_of",
    "hulls": "hull needed is_hull",
    "polar": "faces_round polar_names polar",
    "wholes": "scale enlarged greatest_size shrunk is_shrunk",
    "refusals": "is_refusal reason refusal",
    "made": "solid_of has_solid is_made",
    "webdeeds": "cut_corner raise_face tie_across glued",
    "soliddeeds": "cut_off raised mirrored moved",
    "sections": "section halves",
    "looks": "seen rim corners_seen is_blocked",
    "weights": "size middle_of outward foot_on height_square",
    "rolling": "rests_on rest_faces rolls_to course",
    "census": "all_codes codes_with kind_of can_take_out",
    "records": "judged check_of record_text parse_record",
    "commands": "is_command is_deed point_words ring_words",
    "desk": "Desk",
}
WRONG = [
    ("L2", "import math\n"), ("L2", "from os import path\n"), ("L2", "from . import webs\n"),
    ("L2", "from websolids.webs import *\n"), ("L2", "from math import floor\n"), ("L2", "A = 1\nfrom math import gcd\n"),
    ("L2", "def f():\n    from math import gcd\n    return gcd(1, 2)\n"), ("L3", "print('a')\n"),
    ("L3", "A, B = 1, 2\n"), ("L3", "A = len('a')\n"), ("L3", "A = 1\nB = (A, 2)\n"), ("L3", "A = 1 + 1\n"), ("L4", "@cache\ndef f():\n    return 1\n"),
    ("L5", "class A:\n    def __del__(self):\n        pass\n"), ("L5", "@told\nclass A:\n    pass\n"),
    ("L6", "def f():\n    global a\n"), ("L6", "async def f():\n    return 1\n"), ("L6", "def f(a):\n    a\n"),
    ("L7", "A = 1.5\n"), ("L7", "def f(a):\n    return a / 2\n"), ("L7", "def f(a):\n    a /= 2\n    return a\n"),
    ("L8", "def f(a):\n    return hash(a)\n"), ("L8", "def f(a):\n    return chr(a)\n"),
    ("L8", "def f(a):\n    print(a)\n"), ("L10", "A = '" + "a" * 120 + "'\n"), ("L10", "A = 1\n" * 0 + "\n" * 400),
    ("L10", "def f(a):\n" + "    a += 1\n" * 40), ("L10", "def f(a):\n\treturn a\n"),
    ("L12", "A\u00e4 = 1\n"), ("L14", "# \u00e4\n"), ("L12", "def _record(a):\n    return a\n"),
    ("L12", "def f(a):\n    _, b = a\n    return _\n"), ("L15", "A = 1\nA = 2\n"), ("L15", "def f(hash):\n    return hash\n"),
    ("L15", "from math import gcd\ndef f(gcd):\n    return gcd\n"), ("L15", "def f(a):\n    round = a\n    return round\n"),
    ("L17", "A = 'an enum'\n"), ("L17", "def register(a):\n    return a\n"), ("L17", "def f(type):\n    return type\n"),
    ("L19", "def f(a):\n    try:\n        return a[0]\n    except Exception:\n        return 1\n"),
    ("L19", "def f(a):\n    try:\n        return a[0]\n    except:\n        return 1\n"),
    ("L19", "def f(a):\n    raise a.wrong()\n"), ("L20", "def f(a, b):\n    return a is b\n"),
    ("L20", "def f(a):\n    return a is 1\n"), ("L22", "def f(a):\n    return sorted(a, cmp=1)\n"),
    ("L22", "def f(a):\n    g = sorted\n    return g(a)\n"), ("L23", "def f(a):\n    return reversed(zip(a, a))\n"),
    ("L24", "def f(a):\n    return set(a)\n"), ("L24", "def f(a):\n    return [x for x in list({1, a})]\n"),
    ("L25", "def f(a):\n    g = a.append\n    g(1)\n"), ("L27", "A = 'per%'\n"), ("L27", "A = 'a\\x41'\n"),
    ("L5", "class A:\n    def __getitem__(self, at):\n        return at\n"),
    ("L5", "class A:\n    def __contains__(self, x):\n        self.x = x\n        return True\n"),
    ("L28", "class A:\n    def __len__(self):\n        return self.many\n"),
    ("L27", "def f(a, b):\n    return a ** (b + 1)\n"), ("L27", "def f(a):\n    return a ** 65\n"),
]


def files():
    """The package's files."""
    return sorted(PACKAGE.rglob("*.py"))


class LanguageTest(Checking):

    def test_files(self):
        for path in PACKAGE.rglob("*"):
            if "__pycache__" not in path.parts:
                self.assertTrue(path.is_dir() or re.fullmatch("[a-z_][a-z0-9_]*[.]py", path.name), path)
        self.assertTrue((PACKAGE / "__init__.py").is_file())
        self.assertLessEqual(len(files()), 100)

    def test_no_file_breaks_a_rule(self):
        for path in files():
            text = path.read_text(encoding="utf-8")
            self.assertEqual(breaches(text), [], path.name)

    def test_methods_that_are_called(self):
        own = set()
        for path in files():
            tree = ast.parse(path.read_text(encoding="utf-8"))
            for node in ast.walk(tree):
                if isinstance(node, ast.ClassDef):
                    own |= {part.name for part in node.body if isinstance(part, ast.FunctionDef)}
        for path in files():
            for node in ast.walk(ast.parse(path.read_text(encoding="utf-8"))):
                if isinstance(node, ast.Call) and isinstance(node.func, ast.Attribute):
                    self.assertIn(node.func.attr, METHODS | own, (path.name, node.lineno))

    def test_imports_name_the_file_that_defines(self):
        edges = {}
        for path in files():
            tree = ast.parse(path.read_text(encoding="utf-8"))
            rows = [node for node in tree.body if isinstance(node, ast.ImportFrom)]
            rows = [node for node in rows if node.module.startswith("websolids.")]
            edges["websolids." + path.stem] = {node.module for node in rows}
            for node in rows:
                module = importlib.import_module(node.module)
                defined = ast.parse(inspect.getsource(module)).body
                told = {part.name for part in defined if isinstance(part, (ast.FunctionDef, ast.ClassDef))}
                told |= {part.targets[0].id for part in defined if isinstance(part, ast.Assign)}
                for name in node.names:
                    self.assertIn(name.name, told, (path.name, node.lineno))
        while edges:
            ends = [name for name in edges if not edges[name] & set(edges)]
            self.assertTrue(ends, f"these import one another: {sorted(edges)}")
            edges = {name: edges[name] for name in edges if name not in ends}

    def test_the_interface_is_defined_where_it_is_listed(self):
        for stem, told in INTERFACE.items():
            module = importlib.import_module("websolids." + stem)
            for name in told.split():
                self.assertEqual(getattr(module, name).__module__, "websolids." + stem)

    def test_wrong_code_is_found(self):
        for rule, text in WRONG:
            self.assertIn(rule, [found for found, _ in breaches(text)], text)
