"""The rules of the language that a look at the code can tell, file by file."""

import ast
import builtins
import os
import unittest

import spiralsays

PACKAGE = os.path.dirname(os.path.abspath(spiralsays.__file__))
BUILTINS = set(
    "len range enumerate zip min max sum abs sorted reversed int str bool bytes list tuple dict set frozenset isinstance "
    "ord repr any all divmod pow getattr hasattr setattr Exception ValueError TypeError KeyError IndexError LookupError "
    "ZeroDivisionError ArithmeticError OverflowError RuntimeError NotImplementedError AttributeError NotImplemented "
    "iter next map super property staticmethod classmethod".split()
)
METHODS = set(
    "__init__ __eq__ __repr__ __str__ __len__ __iter__ __contains__ __bool__ __abs__ __neg__ __add__ __sub__ __mul__".split()
)
LIBRARY = {"math": {"gcd", "lcm", "isqrt"}}
BARRED_NAMES = set(
    "register mro elements open input law version_info with_traceback add_note attrgetter breakpoint compile copyright "
    "credits delattr dir eval exec exit gc globals help id importlib license locals methodcaller os quit type vars sys chr".split()
)
BARRED_ATTRIBUTES = set(
    "items keys values pop update append clear extend insert remove reverse setdefault sort args encode decode hex fromhex "
    "format as_integer_ratio bit_count conjugate from_bytes is_integer to_bytes".split()
)
BARRED_WORDS = set("type typing enum Enum Flag Generic Protocol ABC namedtuple NamedTuple".split())
AT_ONCE = ("zip", "enumerate", "reversed")
STATEMENTS = (
    ast.FunctionDef, ast.ClassDef, ast.Return, ast.Assign, ast.AugAssign, ast.For, ast.While, ast.If, ast.Raise, ast.Try,
    ast.Assert, ast.Pass, ast.Break, ast.Continue, ast.Expr, ast.Delete, ast.ImportFrom,
)


QUIET = ("__str__", "__repr__", "__eq__", "__len__", "__bool__", "__contains__")


def is_text(node):
    """Whether an expression surely is a string: a literal, an f-string, str(..), repr(..), the join of a literal."""
    if isinstance(node, ast.JoinedStr) or (isinstance(node, ast.Constant) and isinstance(node.value, str)):
        return True
    if not isinstance(node, ast.Call):
        return False
    if isinstance(node.func, ast.Name):
        return node.func.id in ("str", "repr")
    return node.func.attr == "join" and isinstance(node.func.value, ast.Constant)


def sources():
    found = {}
    for file in sorted(os.listdir(PACKAGE)):
        if file != "__pycache__":
            with open(os.path.join(PACKAGE, file), encoding="utf-8") as opened:
                found[file] = opened.read()
    return found


SOURCES = sources()
TREES = {file: ast.parse(text) for file, text in SOURCES.items()}


def parents_of(tree):
    return {child: node for node in ast.walk(tree) for child in ast.iter_child_nodes(node)}


def functions(tree):
    return [node for node in ast.walk(tree) if isinstance(node, ast.FunctionDef)]


def classes():
    return [node for tree in TREES.values() for node in tree.body if isinstance(node, ast.ClassDef)]


def stored(tree):
    """Names that are assigned, of caught errors too, and names of parameters."""
    names = {node.id for node in ast.walk(tree) if isinstance(node, ast.Name) and isinstance(node.ctx, ast.Store)}
    names |= {node.name for node in ast.walk(tree) if isinstance(node, ast.ExceptHandler) and node.name}
    return names | {node.arg for node in ast.walk(tree) if isinstance(node, ast.arg)}


def imported(tree):
    return [alias.name for node in tree.body if isinstance(node, ast.ImportFrom) for alias in node.names]


def call_name(node):
    return node.func.id if isinstance(node, ast.Call) and isinstance(node.func, ast.Name) else None


class Language(unittest.TestCase):
    def each(self):
        for file, tree in TREES.items():
            with self.subTest(file=file):
                yield file, tree

    def test_files(self):
        self.assertLessEqual(len(SOURCES), 100)
        for file, text in SOURCES.items():
            self.assertRegex(file, r"^[a-z0-9_]+\.py$")
            self.assertTrue(all(" " <= sign <= "~" or sign == "\n" for sign in text), file)
            lines = text.split("\n")
            self.assertLessEqual(len(lines), 400, file)
            self.assertLessEqual(max(len(line) for line in lines), 120, file)

    def test_functions_are_short(self):
        for file, tree in self.each():
            for one in functions(tree):
                self.assertLessEqual(one.end_lineno - one.lineno + 1, 40, f"{file} {one.name}")
                for default in one.args.defaults + one.args.kw_defaults:
                    self.assertNotIsInstance(default, (ast.List, ast.Dict, ast.Call, ast.Name))

    def test_imports(self):
        needs = {}
        for file, tree in self.each():
            needs[file] = []
            for node in ast.walk(tree):
                self.assertNotIsInstance(node, ast.Import)
                if not isinstance(node, ast.ImportFrom):
                    continue
                self.assertIn(node, tree.body)
                self.assertEqual(node.level, 0)
                names = {alias.name for alias in node.names}
                self.assertTrue(all(alias.asname is None for alias in node.names))
                if node.module in LIBRARY:
                    self.assertLessEqual(names, LIBRARY[node.module])
                    continue
                whole, _, part = node.module.partition(".")
                self.assertEqual(whole, "spiralsays")
                needs[file].append(f"{part}.py")
                here = {one.name for one in TREES[f"{part}.py"].body if isinstance(one, (ast.FunctionDef, ast.ClassDef))}
                here |= {one.targets[0].id for one in TREES[f"{part}.py"].body if isinstance(one, ast.Assign)}
                self.assertLessEqual(names, here)
            used = {node.id for node in ast.walk(tree) if isinstance(node, ast.Name)}
            self.assertLessEqual(set(imported(tree)), used)
        while needs:
            free = [file for file, due in needs.items() if not any(one in needs for one in due)]
            self.assertTrue(free, f"files import from each other: {sorted(needs)}")
            needs = {file: due for file, due in needs.items() if file not in free}

    def test_one_binding_for_each_name(self):
        own_classes = {one.name for one in classes()}
        self.assertEqual(len(own_classes), len(classes()))
        for file, tree in self.each():
            names = imported(tree) + [one.name for one in tree.body if isinstance(one, (ast.FunctionDef, ast.ClassDef))]
            names += [target.id for one in tree.body if isinstance(one, ast.Assign) for target in one.targets]
            self.assertEqual(len(names), len(set(names)))
            taken = set(imported(tree)) | {one.name for one in tree.body if isinstance(one, ast.ClassDef)}
            for one in functions(tree):
                self.assertFalse(stored(one) & taken, f"{file} {one.name}")
                self.assertFalse(stored(one) & set(names), f"{file} {one.name}")
            for name in stored(tree) | set(names):
                self.assertFalse(hasattr(builtins, name), name)
                self.assertNotIn(name, BARRED_NAMES)
                self.assertRegex(name, r"^[A-Za-z_][A-Za-z0-9_]*$")
                self.assertFalse(name.startswith("__"))

    def test_statements(self):
        for file, tree in self.each():
            for node in ast.walk(tree):
                if isinstance(node, ast.stmt):
                    self.assertIsInstance(node, STATEMENTS)
            for node in tree.body:
                plain = isinstance(node, (ast.FunctionDef, ast.ClassDef, ast.ImportFrom))
                text = isinstance(node, ast.Expr) and isinstance(node.value, ast.Constant) and isinstance(node.value.value, str)
                self.assertTrue(plain or text or isinstance(node, ast.Assign), f"{file} {node.lineno}")
            for node in ast.walk(tree):
                if isinstance(node, ast.FunctionDef):
                    for one in node.decorator_list:
                        self.assertIn(one.id, ("property", "staticmethod", "classmethod"))
                if isinstance(node, ast.ClassDef):
                    self.assertEqual(node.decorator_list, [])

    def test_builtins(self):
        for file, tree in self.each():
            known = set(imported(tree)) | stored(tree) | BUILTINS
            known |= {one.name for one in ast.walk(tree) if isinstance(one, (ast.FunctionDef, ast.ClassDef))}
            for node in ast.walk(tree):
                if isinstance(node, ast.Name):
                    self.assertIn(node.id, known, f"{file} {node.lineno}")

    def test_expressions(self):
        for file, tree in self.each():
            above = parents_of(tree)
            for node in ast.walk(tree):
                where = f"{file} {getattr(node, 'lineno', 0)}"
                if isinstance(node, ast.BinOp):
                    self.assertNotIsInstance(node.op, (ast.Div, ast.MatMult), where)
                if isinstance(node, ast.Constant):
                    self.assertNotIsInstance(node.value, (float, complex), where)
                if isinstance(node, ast.Constant) and isinstance(node.value, str):
                    self.assertNotIn("%", node.value, where)
                if isinstance(node, ast.Compare) and any(isinstance(op, (ast.Is, ast.IsNot)) for op in node.ops):
                    self.assertIn(ast.dump(node.comparators[0]), [ast.dump(ast.Constant(one)) for one in (None, True, False)])
                if isinstance(node, ast.GeneratorExp):
                    self.assertIn(call_name(above[node]), ("list", "tuple", "dict"), where)
                if isinstance(node, (ast.Set, ast.SetComp)) or call_name(node) == "set":
                    self.assertIn(call_name(above[node]), ("sorted", "len"), where)
                if call_name(node) in AT_ONCE:
                    self.assertTrue(isinstance(above[node], (ast.For, ast.comprehension)) or call_name(above[node]) in ("list", "tuple"), where)
                if isinstance(node, (ast.Await, ast.JoinedStr)) and isinstance(above[node], ast.FormattedValue):
                    self.fail(where)
                self.assertNotIsInstance(node, (ast.Await, ast.NamedExpr), where)

    def test_attributes(self):
        for file, tree in self.each():
            for node in ast.walk(tree):
                if isinstance(node, ast.Attribute):
                    self.assertNotEqual(node.attr, "sort")
                    if isinstance(node.ctx, ast.Store):
                        self.assertNotIn(node.attr, BARRED_ATTRIBUTES)
                    if node.attr.startswith("__"):
                        self.assertIn(node.attr, ("__init__", "__class__", "__name__"), f"{file} {node.lineno}")
            for word in BARRED_WORDS:
                names = {node.id for node in ast.walk(tree) if isinstance(node, ast.Name)}
                self.assertNotIn(word, names)

    def test_classes(self):
        methods, plain, decorated, attributes = {}, set(), set(), set()
        for one in classes():
            for node in one.body:
                if isinstance(node, ast.FunctionDef):
                    self.assertNotIn((one.name, node.name), methods)
                    methods[one.name, node.name] = node
                    if node.name.startswith("__"):
                        self.assertIn(node.name, METHODS)
                    else:
                        (decorated if node.decorator_list else plain).add(node.name)
            attributes |= {
                node.attr for node in ast.walk(one)
                if isinstance(node, ast.Attribute) and isinstance(node.ctx, ast.Store)
            }
        self.assertFalse(plain & attributes)
        self.assertFalse(decorated & attributes)
        self.assertFalse(plain & decorated)

    def test_texts_and_comparisons_assign_nothing(self):
        for one in classes():
            for node in one.body:
                if not isinstance(node, ast.FunctionDef) or node.name not in QUIET:
                    continue
                where = f"{one.name} {node.name}"
                for part in ast.walk(node):
                    self.assertNotIsInstance(part, (ast.Assign, ast.AugAssign, ast.NamedExpr, ast.Delete), where)
                    if isinstance(part, ast.BinOp) and node.name in ("__str__", "__repr__"):
                        self.fail(where)
                    if isinstance(part, ast.Return) and node.name in ("__str__", "__repr__"):
                        self.assertTrue(is_text(part.value), where)

    def test_comparing_classes_are_no_keys(self):
        for one in classes():
            names = [node.name for node in one.body if isinstance(node, ast.FunctionDef)]
            self.assertNotIn("__hash__", names)
            self.assertFalse({"__lt__", "__le__", "__gt__", "__ge__"} & set(names))


LISTED = {
    "ratios": {"Ratio": "__init__ __add__ __sub__ __mul__ over compared is_below __neg__ __abs__ __bool__ __eq__ __str__ __repr__ read of sign is_whole below"},
    "papers": {"Paper": "__init__ __eq__", "Denial": "__init__"},
    "steps": {"Step": "__init__ __add__ __sub__ __neg__ __mul__ __eq__ __str__ read one_round"},
    "tables": {"Table": "__init__ elder back __mul__ same mirror put_on __eq__ __str__ read"},
    "stems": {"Stem": "__init__ square product lean is_steeper __eq__ __str__ read"},
    "nets": {"Net": "__init__ first holds __eq__ __str__ read"},
    "rows": {
        "Row": "__init__ __add__ __sub__ __neg__ __mul__ at __eq__ __str__ read of_square of_product of_lean of_steeper",
        "Told": "__init__ zero least above holds contrary __eq__ __str__ read",
    },
    "books": {"Book": "__init__ __len__ __iter__ __contains__ with_told without joined __eq__ __str__ read"},
    "fits": {"Kept": "__init__", "Simplest": "__init__", "OneStep": "__init__"},
    "rises": {"Highest": "__init__", "Endless": "__init__", "Reached": "__init__", "NotReached": "__init__"},
    "sayings": {"Saying": "__eq__ __str__ read"} | {
        name: "__init__ __eq__ __str__" for name in (
            "Shorter AsLong Sharp RightAngle Blunt LeansRight StraightUp LeansLeft Steeper NoLonger Longer TurnAtMost TurnBelow "
            "TurnAtLeast TurnAbove TurnIs IsNet Nearest Rows"
        ).split()
    },
    "words": {"Always": "__init__", "Nowhere": "__init__", "Both": "__init__"},
    "tight": {"Tight": "__init__"},
    "net_words": {"SureNet": "__init__", "Unsure": "__init__"},
    "map_pieces": {"SureNearest": "__init__"},
    "roads": {"Road": "__init__ __eq__ __str__ read"},
    "turns": {"SureRoad": "__init__", "Ended": "__init__", "Roadless": "__init__"},
    "windows": {"Window": "__init__ __contains__ __eq__ __str__ read"},
    "counted": {"Counted": "holds __eq__ __str__ read"} | {
        name: "__init__ holds __eq__ __str__" for name in ("RightLeft", "SeenBoth", "OneWay", "NearerStud")
    },
    "cuts": {"Stretch": "__init__ __eq__"},
    "told_counts": {"CountBook": "__init__ __contains__ __eq__", "KeptCounts": "__init__", "NoStretch": "__init__"},
    "heights": {
        "Tie": "__init__ contrary __eq__ __str__ read",
        "Heights": "__init__ __len__ with_told with_tie alone holds __eq__ __str__ read",
    },
    "tied_fits": {"KeptHeights": "__init__", "OneStepHeights": "__init__"},
    "tied_counts": {"CountHeights": "__init__ __eq__"},
    "rolled": {"Unalike": "__init__"},
    "clashes": {"Clash": "__init__"},
    "strikes": {"Struck": "__init__", "NotStruck": "__init__"},
    "measures": {"EnoughRows": "__init__", "StillBoth": "__init__"},
    "offers": {"Cheapest": "__init__", "Follows": "__init__"},
    "desk": {"Desk": "__init__ tell run back names value_of __len__ __contains__ lines"},
}
FUNCTIONS = {
    "checks": "is_integer is_within is_name", "ratios": "is_ratio added least_of greatest_of", "papers": "fixed",
    "pairs": "cross are_neighbours mate between", "fractions": "mediant are_near whole_of parents runs_of",
    "laid": "place nearest_rounds laid first_within", "stem_nets": "nets_of nearest_two by_length", "spirals": "family seen",
    "check_stems": "shows_nets shows_nearest", "fits": "fit need_possible simplest_turn with_turn_at_most with_turn_at_least",
    "rises": "greatest_rise reached", "check_fits": "shows_fit shows_simplest shows_rise",
    "words": "word_of", "several": "words_of together", "tight": "tightest", "check_words": "shows_word shows_tight",
    "net_words": "sure_net nets_that_come", "map_pieces": "piece sure_nearest", "check_nets": "shows_sure_net shows_sure_nearest",
    "roads": "road_of road_at net_at turns_of is_ahead common", "falling": "falling nets_between", "turns": "sure_road",
    "check_roads": "shows_road", "cuts": "cuts stretches", "told_counts": "fit_counts word_counts",
    "check_counts": "shows_counts shows_word_counts", "ties": "tied equal_heights",
    "tied_fits": "fit_heights word_heights word_turn word_tie is_surer", "tied_counts": "fit_count_heights word_count_heights",
    "orders": "seen_in_order sure_road_of",
    "check_heights": "shows_heights shows_word_heights shows_word_tie shows_count_heights shows_word_count_heights shows_road_of",
    "carried": "carried_stem carried_row carried_told carried_book carried_saying", "mirrored": "mirrored put_on",
    "thinned": "thinned thick", "rolled": "rolled sheets_alike each_rolled", "check_new": "shows_alike",
    "clashes": "clash", "strikes": "strikes", "measures": "told_by outcomes enough next_row", "offers": "cheapest offers",
    "check_choice": "shows_clash shows_strikes shows_enough shows_cheapest shows_offers",
    "paper_kinds": "kind_words part_names made paper_kind", "paper_texts": "paper_text read_paper",
    "reader": "kind_of value_text read_value is_shown", "whole": "told_whole shows_whole",
}


class Interface(unittest.TestCase):
    def test_methods_stand_in_their_classes(self):
        for part, listed in LISTED.items():
            for name, methods in listed.items():
                found = [node for node in TREES[f"{part}.py"].body if isinstance(node, ast.ClassDef) and node.name == name]
                self.assertEqual(len(found), 1, name)
                here = {node.name for node in found[0].body if isinstance(node, ast.FunctionDef)}
                self.assertLessEqual(set(methods.split()), here, name)

    def test_functions_stand_in_their_files(self):
        for part, listed in FUNCTIONS.items():
            here = {node.name for node in TREES[f"{part}.py"].body if isinstance(node, ast.FunctionDef)}
            self.assertLessEqual(set(listed.split()), here, part)


if __name__ == "__main__":
    unittest.main()
