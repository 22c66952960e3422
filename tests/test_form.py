"""The form of the package: the rules of its language that a short look can see."""

import ast
import builtins
import os
import re
import unittest

FOLDER = os.path.join(os.path.dirname(os.path.dirname(__file__)), "nodice")
LIBRARY = {"math": {"gcd", "lcm", "isqrt", "comb", "perm", "factorial"}}
BUILTINS = set(
    "len range enumerate zip min max sum abs sorted reversed int str bool list tuple dict set isinstance ord repr"
    " any all divmod pow Exception ValueError TypeError KeyError IndexError staticmethod classmethod property"
    " True False None super".split()
)
BARRED = set(
    "register mro elements open input law version_info with_traceback add_note type typing enum dataclass overload"
    " contextmanager eval exec exit globals locals vars id dir help compile getattr setattr delattr".split()
)
METHODS = set(
    "append clear copy count endswith extend find get index insert isalnum isalpha isdigit islower isspace isupper"
    " items join keys ljust lower lstrip partition pop remove replace reverse rfind rjust rpartition rsplit rstrip"
    " setdefault split splitlines startswith strip update upper values zfill bit_length title capitalize swapcase"
    " casefold center removeprefix removesuffix rindex isascii isdecimal isnumeric add discard".split()
)
SPECIAL = {"__init__", "__eq__", "__str__", "__repr__", "__len__", "__bool__"}
BARRED_NODES = (
    ast.Global, ast.Await, ast.AsyncFor, ast.AsyncFunctionDef, ast.AsyncWith, ast.Div, ast.Yield,
    ast.GeneratorExp, ast.MatMult, ast.Set, ast.Import, ast.NamedExpr, ast.Match, ast.With, ast.Nonlocal,
)
INTERFACE = {
    "errors": {"HandError": None},
    "checks": {
        "is_integer": "value", "is_within": "value least most", "is_fraction": "value", "are_integers": "value many",
    },
    "pairs": {
        "reduced": "up down", "added": "one other", "less": "one other", "multiplied": "one other",
        "below": "one other",
    },
    "papers": {"Paper": "word", "Denial": "word", "fixed": "value"},
    "heaps": {"colour_of": "heaps", "chips_in": "heaps", "joined_heaps": "one other"},
    "lines": {
        "Line": "heaps lefts", "Line.advance": "", "Line.forward": "many", "Line.heap_at": "spot", "Line.copy": "",
        "Line.read": "text", "hand_at": "line spot", "sendings": "line", "moved_line": "line by",
    },
    "means": {"share_of": "far ticks", "mean_at": "heaps spot ticks", "means": "heaps ticks"},
    "gaps": {"gap_at": "heaps lefts spot ticks", "gaps": "heaps lefts ticks"},
    "firsts": {
        "first_share": "far ticks", "best_ticks": "far most", "reach": "ticks", "reach_rows": "ticks",
    },
    "looks": {
        "Look": "rows", "Look.read": "text", "window": "first many tick", "visits": "spot tick",
        "joined_looks": "one other", "scaled_look": "look by", "moved_look": "look spots ticks",
    },
    "worths_of_looks": {
        "look_worth": "look heaps lefts", "look_mean": "look heaps", "look_gap": "look heaps lefts",
    },
    "changes": {"change": "look spot tick", "changes": "look spot", "touched": "look"},
    "turns": {"Turns": "total picks sign", "greatest_turns": "numbers", "turns_from": "numbers sign"},
    "check_turns": {"shows_turns": "numbers value"},
    "reaches": {"reach_of": "look", "reach_by": "look lefts"},
    "told_gaps": {
        "Gap": "gap chips", "odd_heaps": "heaps lefts ticks", "told_gap": "look heaps lefts",
        "counts_of": "look heaps lefts spot",
    },
    "check_gaps": {"shows_gap": "look heaps lefts value"},
    "wishes": {"start_for": "lefts wish colour low high ticks", "oddness": "heaps lefts low high ticks"},
    "check_wishes": {"shows_start": "lefts wish colour low high ticks value"},
    "worst": {"Worst": "heaps lefts", "worst_start": "look", "worst_by": "look lefts"},
    "check_worst": {"shows_worst": "look value"},
    "boards": {"Board": "homes rows", "Board.read": "text", "shut_lot": "board"},
    "odds": {
        "Odds": "home shares", "Steps": "means", "Shut": "lot", "odds": "board home", "mean_steps": "board",
        "odds_from": "board place",
    },
    "check_odds": {"shows_odds": "board home value", "shows_steps": "board value"},
    "worlds": {
        "World": "board hands", "World.enter": "place", "World.advance": "walker", "World.led": "walker most",
        "World.play": "place most", "World.copy": "",
    },
    "worths": {
        "Bound": "home shares spans total", "worths": "board home", "told_bound": "board home", "kept": "world home",
        "plays": "board hands place many most", "gap_after": "board hands place home many",
    },
    "check_worths": {"shows_bound": "board home value"},
    "games": {"Game": "text", "Game.read": "text"},
    "throws": {
        "Over": "home turns", "Open": "standing turns", "outcomes": "game standing", "told": "game throws",
    },
    "dealt": {"dealt": "weights", "is_even": "weights row"},
    "led": {"Led": "board standings", "led": "game", "game_odds": "game"},
    "check_led": {"shows_led": "game value"},
    "pictures": {
        "picture": "line low high", "film": "heaps lefts low high ticks", "look_sheet": "look low high",
    },
    "desk_lines": {"read_order": "order"},
    "desk": {"Desk": "", "Desk.told": "order", "Desk.twin": ""},
    "scripts": {"answers": "orders"},
}


def files_of():
    return sorted(name for name in os.listdir(FOLDER) if name != "__pycache__")


def text_of(name):
    with open(os.path.join(FOLDER, name), "rb") as file:
        return file.read().decode("ascii")


def tree_of(name):
    return ast.parse(text_of(name))


def nodes_of(name, *kinds):
    return [node for node in ast.walk(tree_of(name)) if isinstance(node, kinds)]


def defined_in(name):
    """Functions, classes and their methods, by name, with the names of their parameters."""
    found = {}
    for node in tree_of(name).body:
        if isinstance(node, ast.FunctionDef):
            found[node.name] = [one.arg for one in node.args.args]
        if isinstance(node, ast.ClassDef):
            found[node.name] = None
            for inner in node.body:
                if isinstance(inner, ast.FunctionDef):
                    told = [one.arg for one in inner.args.args if one.arg != "self"]
                    found[f"{node.name}.{inner.name}"] = told
                    if inner.name == "__init__":
                        found[node.name] = told
        if isinstance(node, ast.Assign):
            found[node.targets[0].id] = None
    return found


def bound_names(name):
    """Parameters, local variables, functions, classes and module-level names."""
    for node in ast.walk(tree_of(name)):
        if isinstance(node, ast.Name) and isinstance(node.ctx, ast.Store):
            yield node.id
        if isinstance(node, ast.arg):
            yield node.arg
        if isinstance(node, ast.ClassDef):
            yield node.name


def imports_of(name):
    return [(node.module, [one.name for one in node.names]) for node in nodes_of(name, ast.ImportFrom)]


class Form(unittest.TestCase):
    def test_files(self):
        for name in files_of():
            self.assertRegex(name, "^[a-z_]+[.]py$")
            text = text_of(name)
            self.assertRegex(text, "^[ -~\n]*$")
            rows = text.split("\n")
            self.assertLessEqual(len(rows), 399, name)
            self.assertLessEqual(max(len(row) for row in rows), 120, name)

    def test_sizes_of_functions(self):
        for name in files_of():
            for node in nodes_of(name, ast.FunctionDef):
                self.assertLessEqual(node.end_lineno - node.lineno + 1, 40, (name, node.name))

    def test_nodes(self):
        for name in files_of():
            self.assertEqual([node.lineno for node in nodes_of(name, *BARRED_NODES)], [], name)
            for node in nodes_of(name, ast.Constant):
                self.assertNotIsInstance(node.value, (float, complex, bytes))
            for node in nodes_of(name, ast.JoinedStr, ast.Constant):
                text = ast.unparse(node)
                if not text.startswith('"""'):
                    self.assertNotIn("%", text)
            for node in nodes_of(name, ast.FunctionDef, ast.ClassDef):
                for decorator in node.decorator_list:
                    self.assertEqual(ast.unparse(decorator), "staticmethod")

    def test_handlers(self):
        own = set(defined_in("errors.py"))
        for name in files_of():
            for node in nodes_of(name, ast.Try):
                self.assertEqual((node.orelse, node.finalbody), ([], []), name)
                caught = [handler.name for handler in node.handlers]
                self.assertEqual(len(set(caught)), len(caught), name)
                for handler in node.handlers:
                    self.assertIn(handler.type.id, own, name)
            for node in nodes_of(name, ast.Raise):
                self.assertIn(node.exc.func.id, own, name)

    def test_imports(self):
        for name in files_of():
            for module, names in imports_of(name):
                if module in LIBRARY:
                    self.assertLessEqual(set(names), LIBRARY[module])
                    continue
                package, file = module.split(".")
                self.assertEqual(package, "nodice")
                self.assertLessEqual(set(names), set(defined_in(file + ".py")), (name, module))
            for node in nodes_of(name, ast.ImportFrom):
                self.assertTrue(all(one.asname is None for one in node.names))

    def test_imports_go_one_way(self):
        ahead = {}
        for name in files_of():
            ahead[name[:-3]] = {module.split(".")[-1] for module, _ in imports_of(name) if module not in LIBRARY}
        while ahead:
            free = [name for name in ahead if not ahead[name] & set(ahead)]
            self.assertNotEqual(free, [])
            for name in free:
                del ahead[name]

    def test_all_imports_are_used(self):
        for name in files_of():
            used = {node.id for node in nodes_of(name, ast.Name)}
            for _, names in imports_of(name):
                self.assertLessEqual(set(names), used, name)

    def test_names(self):
        for name in files_of():
            classes = {node.name for node in nodes_of(name, ast.ClassDef)}
            imported = {one for _, names in imports_of(name) for one in names}
            bound = list(bound_names(name))
            self.assertEqual(set(bound) & (imported | BARRED | set(dir(builtins))), set(), name)
            local = [one for one in bound if one not in classes]
            self.assertEqual(set(local) & classes, set(), name)
            for node in nodes_of(name, ast.FunctionDef):
                if node.name.startswith("__"):
                    self.assertIn(node.name, SPECIAL)
                self.assertNotIn(node.name, dir(builtins))
            for one in nodes_of(name, ast.Name):
                if one.id in dir(builtins):
                    self.assertIn(one.id, BUILTINS, name)

    def test_words(self):
        barred = BARRED - {"open", "input"}
        for name in files_of():
            told = {word for word in re.findall("[A-Za-z_]+", text_of(name))}
            self.assertEqual(told & {"type", "typing", "enum", "dataclass", "overload", "law", "_wall"}, set(), name)
            for node in nodes_of(name, ast.Attribute):
                self.assertNotIn(node.attr, barred)

    def test_methods(self):
        own = set()
        for name in files_of():
            own |= {node.name for node in nodes_of(name, ast.FunctionDef)}
        for name in files_of():
            for node in nodes_of(name, ast.Call):
                if isinstance(node.func, ast.Attribute):
                    self.assertIn(node.func.attr, own | METHODS, name)

    def test_sets_stand_at_once(self):
        for name in files_of():
            inside = []
            for node in nodes_of(name, ast.Call):
                if isinstance(node.func, ast.Name) and node.func.id in ("len", "sorted"):
                    inside.extend(ast.dump(one) for one in node.args)
            for node in nodes_of(name, ast.SetComp):
                self.assertIn(ast.dump(node), inside, name)
            for node in nodes_of(name, ast.Call):
                if isinstance(node.func, ast.Name) and node.func.id == "set":
                    self.assertIn(ast.dump(node), inside, name)

    def test_powers(self):
        for name in files_of():
            for node in nodes_of(name, ast.BinOp):
                if isinstance(node.op, ast.Pow):
                    self.assertIsInstance(node.right, ast.Constant, name)
                    self.assertLessEqual(node.right.value, 64)

    def test_module_level(self):
        for name in files_of():
            for node in tree_of(name).body:
                docstring = isinstance(node, ast.Expr) and isinstance(node.value, ast.Constant)
                self.assertTrue(
                    docstring or isinstance(node, (ast.ImportFrom, ast.FunctionDef, ast.ClassDef, ast.Assign)), name
                )

    def test_interface(self):
        for name, wanted in INTERFACE.items():
            found = defined_in(name + ".py")
            for one, parameters in wanted.items():
                self.assertIn(one, found)
                if parameters is not None:
                    self.assertEqual(found[one], parameters.split(), one)
        for name in (
            "papers.Paper", "papers.Denial", "lines.Line", "looks.Look", "boards.Board", "worlds.World", "games.Game", "desk.Desk",
        ):
            file, one = name.split(".")
            found = defined_in(file + ".py")
            self.assertIn(one + ".__init__", found)
            self.assertIn(one + ".__eq__", found)
        for name in ("lines.Line", "looks.Look", "boards.Board", "games.Game"):
            file, one = name.split(".")
            self.assertIn(one + ".__str__", defined_in(file + ".py"))

    def test_no_name_is_a_method_and_an_attribute(self):
        methods, attributes = set(), set()
        for name in files_of():
            for node in nodes_of(name, ast.ClassDef):
                methods |= {inner.name for inner in node.body if isinstance(inner, ast.FunctionDef)}
            attributes |= {node.attr for node in nodes_of(name, ast.Attribute) if isinstance(node.ctx, ast.Store)}
        self.assertEqual(methods & attributes, set())
