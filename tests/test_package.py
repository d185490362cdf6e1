"""Point 1 (no clock, no chance, no files), and that the interface stands where it is listed."""

import ast
import inspect
import pathlib
import unittest

from pikeroll import accounts, coin, desk, drives, errors, facts, nets, pages, roll, walk

PACKAGE = pathlib.Path(__file__).resolve().parent.parent / "pikeroll"
LIBRARY = {"heapq", "math", "itertools", "collections"}
SIGNATURES = {
    coin.Toll.__init__: "(self, halves=0)",
    coin.Toll.plus: "(self, other)",
    coin.Toll.times: "(self, many=2)",
    coin.Toll.third: "(self)",
    coin.stub: "(number)",
    coin.read_stub: "(text)",
    coin.summed: "(tolls, start=None)",
    facts.need_fact: "(fact)",
    facts.toll_on: "(facts, gate, day)",
    facts.trust_on: "(facts, gate, day)",
    facts.board_on: "(facts, gate, day)",
    walk.day_walk: "(facts, carriage, day=0)",
    walk.row_of: "(facts, number)",
    walk.why: "(facts, number)",
    walk.turned: "(facts, others)",
    accounts.owes: "(facts, carriage, day=999)",
    accounts.balances: "(facts, day=999)",
    nets.barred: "(net, gates, one, other)",
    nets.way_round: "(net, gates, one, other)",
    drives.cheapest: "(facts, net, start, errands, horses=1, day=0)",
    drives.prices: "(facts, net, start, errands, horses=1, day=0)",
    drives.good_prices: "(facts, net, start, errands, told, horses=1, day=0)",
    drives.pays: "(facts, net, places, horses=1, day=0)",
    roll.Roll.__init__: "(self)",
    roll.Roll.tell: "(self, fact)",
    roll.Roll.right: "(self, number, fact)",
    roll.Roll.strike: "(self, number)",
    roll.Roll.undo: "(self)",
    roll.Roll.redo: "(self)",
    roll.Roll.facts: "(self)",
    roll.Roll.told: "(self)",
    roll.Roll.deeds: "(self)",
    roll.Roll.known: "(self, count)",
    roll.Roll.twin: "(self)",
    pages.fact_text: "(fact)",
    pages.page_of: "(roll)",
    pages.read_page: "(text)",
    desk.Desk.__init__: "(self, roll=None)",
    desk.Desk.say: "(self, line)",
    desk.Desk.roll: "(self)",
}
METHODS = {
    coin.Toll: ["__init__", "plus", "times", "third", "__eq__", "__str__", "__repr__"],
    roll.Roll: ["__init__", "tell", "right", "strike", "undo", "redo", "facts", "told", "deeds", "known", "twin",
                "__eq__", "__len__"],
    desk.Desk: ["__init__", "say", "roll"],
}


def sources():
    return {path: path.read_text(encoding="utf-8") for path in sorted(PACKAGE.glob("**/*.py"))}


class NothingFromOutside(unittest.TestCase):
    def test_there_is_something_to_read(self):
        self.assertEqual({path.name for path in sources()}, {
            "__init__.py", "accounts.py", "coin.py", "desk.py", "drives.py", "errors.py", "facts.py", "nets.py",
            "pages.py", "roll.py", "walk.py"})

    def test_imports(self):
        for path, text in sources().items():
            for node in ast.walk(ast.parse(text)):
                with self.subTest(path.name):
                    self.assertNotIsInstance(node, ast.Import)
                    if isinstance(node, ast.ImportFrom):
                        self.assertEqual(node.level, 0)
                        self.assertIn(node.module.split(".")[0], LIBRARY | {"pikeroll", "__future__"})

    def test_no_word_that_reads_or_runs_from_outside(self):
        barred = {"open", "input", "print", "eval", "exec", "compile", "hash", "id", "__import__", "globals"}
        for path, text in sources().items():
            names = {node.id for node in ast.walk(ast.parse(text)) if isinstance(node, ast.Name)}
            with self.subTest(path.name):
                self.assertEqual(names & barred, set())


class Interface(unittest.TestCase):
    def test_signatures(self):
        for function, signature in SIGNATURES.items():
            with self.subTest(function.__qualname__):
                self.assertEqual(str(inspect.signature(function)), signature)

    def test_methods_stand_in_the_class_itself(self):
        for listed, names in METHODS.items():
            for name in names:
                with self.subTest(f"{listed.__name__}.{name}"):
                    self.assertIn(name, listed.__dict__)

    def test_defined_where_it_is_listed(self):
        listed = {
            coin: ["Toll", "stub", "read_stub", "summed"],
            facts: ["need_fact", "toll_on", "board_on", "trust_on"],
            walk: ["day_walk", "row_of", "why", "turned"],
            accounts: ["owes", "balances"],
            nets: ["barred", "way_round"],
            drives: ["cheapest", "prices", "good_prices", "pays"],
            roll: ["Roll"],
            pages: ["fact_text", "page_of", "read_page"],
            desk: ["Desk"],
            errors: ["PikeError", "Missing", "BadFact", "BadStub", "BadNet", "BadPlace", "BadHorses", "BadDay",
                     "BadCount", "Other", "Full", "Nothing", "BadPage", "NoPassing", "NoFact", "NoCarriage"],
        }
        for module, names in listed.items():
            for name in names:
                with self.subTest(name):
                    self.assertEqual(getattr(module, name).__module__, module.__name__)


class Form(unittest.TestCase):
    """Rules L1, L10 and L14 of the language, as far as counting finds them."""

    def test_only_plain_files(self):
        others = [path.name for path in PACKAGE.iterdir() if path.suffix != ".py" and path.name != "__pycache__"]
        self.assertEqual(others, [])

    def test_sizes_and_characters(self):
        for path, text in sources().items():
            with self.subTest(path.name):
                self.assertLessEqual(len(text.splitlines()), 399)
                self.assertLessEqual(max(len(line) for line in text.splitlines()), 120)
                self.assertTrue(all(sign == "\n" or " " <= sign <= "~" for sign in text))

    def test_functions_are_small(self):
        for path, text in sources().items():
            for node in ast.walk(ast.parse(text)):
                if isinstance(node, ast.FunctionDef):
                    with self.subTest(node.name):
                        self.assertLessEqual(node.end_lineno - node.lineno + 1, 40)


if __name__ == "__main__":
    unittest.main()
