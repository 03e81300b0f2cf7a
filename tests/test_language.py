"""That the package keeps to LANGUAGE.md, as far as its text tells; point 1: no clock, chance or files."""

import pathlib
import unittest

from language import file_faults, package_faults, source_faults

FOLDER = pathlib.Path(__file__).resolve().parent.parent / "ringcarve"

MODULES = ("carving", "errors", "looking", "reading", "turns")


def own_files():
    return sorted(path for path in FOLDER.rglob("*") if path.is_file() and "__pycache__" not in path.parts)


def within(*rows):
    """The source of a function with these rows."""
    return "def answer(xs, word):\n" + "".join(f"    {row}\n" for row in rows)


BREAKING = {
    "L2": (
        "import os\n", "from random import choice\n", "from .turns import ranking\n", "from ringcarve.turns import *\n",
        "from time import time\n", within("from ringcarve.turns import ranking", "return ranking(word)"),
    ),
    "L3": ("answer = len('ring')\n", "if True:\n    answer = 1\n", "kept = []\n", "kept = {}\n"),
    "L4": (
        "def answer(*xs):\n    return xs\n", "def answer(**xs):\n    return xs\n", "def answer(*, x):\n    return x\n",
        "def answer(x, /):\n    return x\n", "def answer(x=[]):\n    return x\n",
        "@once\ndef answer(x):\n    return x\n",
    ),
    "L5": ("class Ring:\n    size = 1\n", "class Ring(ValueError, KeyError):\n    pass\n"),
    "L6": (
        within("with xs:", "    pass"), within("del xs"), within("assert xs"), within("yield xs"), within("xs"),
        within("one = other = xs"), within("'told'", "return xs"),
        within("for x in xs:", "    pass", "else:", "    pass"),
        within("try:", "    xs.pop()", "finally:", "    pass"), within("global seen"),
        "async def answer():\n    pass\n",
    ),
    "L7": (
        within("return 1.5"), within("return 1 / 2"), within("return b'ring'"), within("return {x: x for x in xs}"),
        within("return any(x for x in xs)"), within("return [*xs]"), within("return (x := 1)"),
        within("return [x + y for x in xs for y in xs]"), within("return f'{word:5}'"), within("return f'{word!s}'"),
    ),
    "L8": (
        within("return open(word)"), within("return chr(97)"), within("print(word)"), within("return hash(word)"),
        within("return set(xs)"), within("return __name__"),
    ),
    "L10": (within(*["xs = xs"] * 40), within("xs = xs  # " + "a" * 120), "\n" * 401),
    "L12": (within("_ = xs"), within("_kept = xs"), "def _answer():\n    pass\n", within("return word._kept")),
    "L13": (within("return [lambda x: x, lambda x: x + 1]"),),
    "L14": ("# \u00e9\n", "\t\n"),
    "L15": (
        "def answer():\n    pass\n\n\ndef answer():\n    pass\n", within("sum = 1", "return sum"), within("id = 1"),
        "from ringcarve.turns import ranking\n\n\ndef answer(ranking):\n    return ranking\n",
        within("class Ring:", "    pass"),
    ),
    "L17": ("# the type of a word\n", within("return word.format(1)"), within("return eval(word)"), "# overloaded\n"),
    "L19": (
        within("try:", "    xs.pop()", "except Exception:", "    pass"),
        within("try:", "    xs.pop()", "except:", "    pass"), within("raise ValueError"),
    ),
    "L20": (within("return xs is word"), within("return xs is not 1")),
    "L21": ("def answer(x: int):\n    return x\n", "def answer() -> int:\n    return 1\n"),
    "L22": (
        within("return int(word, base=2)"), within("return word.split(sep='a')"),
        within("how = len", "return how(xs)"),
    ),
    "L23": (
        within("kept = range(3)", "return kept"), within("return zip(xs, word)"), within("return reversed(xs)"),
        within("for x in xs:", "    xs.append(x)"), within("for k, x in enumerate(xs):", "    xs[k] = x"),
        within("return ''.join(xs.keys()) + word.join(xs.values())"),
    ),
    "L24": (within("return {1, 2}"),),
    "L25": (within("return word.title()"), within("xs.sort()"), within("how = xs.append", "how(1)")),
    "L27": (within("return 2 ** xs"), within("return 'a%'"), within("return '\\x41'"), within("return '\\u0041'")),
    "L28": ("class Ring:\n    def __repr__(self):\n        return 'ring'\n",),
}

KEEPING = (
    '"""What the file is for."""\n', "", "LETTERS = 'abc'\nSIZES = (1, -2, None)\n",
    "from ringcarve.turns import ranking\n\n\ndef first(word):\n    return ranking(word)[0]\n",
    "class Refusal(ValueError):\n    pass\n", "class Ring:\n    def __init__(self, word):\n        self.word = word\n",
    within("for k, x in enumerate(xs):", "    word += str(x)", "return f'{word} {xs!r}\\n'"),
    within("return ''.join(reversed(xs))"), within("return sorted(range(len(xs)), key=lambda k: xs[k])"),
    within("return [x * 2 ** 10 for x in xs if x is not None]"), within("for k in range(len(xs)):", "    xs[k] = 0"),
    within("try:", "    return int(word)", "except ValueError:", "    raise ValueError('no number')"),
    within("return max(xs, key=len) if 0 <= len(xs) < 5 else not word"),
)


class TestPackage(unittest.TestCase):
    def test_the_files_of_the_interface_are_there(self):
        names = [path.name for path in own_files()]
        for name in ("__init__.py", *(module + ".py" for module in MODULES)):
            self.assertIn(name, names)

    def test_one_folder(self):
        self.assertEqual({path.parent for path in own_files()}, {FOLDER})

    def test_file_names(self):
        for path in own_files():
            self.assertEqual(list(file_faults(path.name)), [], path)

    def test_each_file(self):
        for path in own_files():
            self.assertEqual(source_faults(path.read_text("utf-8")), [], path)

    def test_the_files_among_one_another(self):
        sources = {"ringcarve." + path.stem: path.read_text("utf-8") for path in own_files()}
        self.assertEqual(package_faults(sources), [])


class TestTheCheckItself(unittest.TestCase):
    def test_sources_that_break_a_rule(self):
        for rule, sources in BREAKING.items():
            for source in sources:
                with self.subTest(rule=rule, source=source):
                    self.assertIn(rule, [broken for broken, row in source_faults(source)])

    def test_sources_that_keep_to_the_rules(self):
        for source in KEEPING:
            with self.subTest(source=source):
                self.assertEqual(source_faults(source), [])

    def test_file_names_that_break_a_rule(self):
        for name in ("Turns.py", "test_turns.py", "sum.py", "_turns.py", "site.py", "turns-two.py"):
            self.assertIn(("L14", 0), list(file_faults(name)), name)
        for name in ("words.txt", "turns.pyi", "README"):
            self.assertIn(("L1", 0), list(file_faults(name)), name)

    def test_files_that_break_a_rule_among_one_another(self):
        one, other = "from ringcarve.other import far\n", "from ringcarve.one import near\n"
        near, far = "\n\ndef near():\n    pass\n", "\n\ndef far():\n    pass\n"
        self.assertEqual(package_faults({"ringcarve.one": one + near, "ringcarve.other": far}), [])
        self.assertEqual(
            package_faults({"ringcarve.one": one + near, "ringcarve.other": other + far}),
            [("L16", "ringcarve.one"), ("L16", "ringcarve.other")],
        )
        self.assertEqual(package_faults({"ringcarve.one": one, "ringcarve.other": near}), [("L16", "ringcarve.one")])
        self.assertEqual(package_faults({"ringcarve.one": one}), [("L16", "ringcarve.one")])


if __name__ == "__main__":
    unittest.main()
