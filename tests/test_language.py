"""Checks that can be made by a program that the package keeps the subset of the language that it is written in."""

import ast
import builtins
import io
import pathlib
import re
import tokenize
import unittest

PACKAGE = pathlib.Path(__file__).resolve().parent.parent / "retroact"
FILES = sorted([path for path in PACKAGE.rglob("*") if "__pycache__" not in path.parts])

BUILTINS = set("""len range enumerate zip min max sum abs sorted reversed int str bool list tuple dict set frozenset isinstance
ord repr any all divmod pow getattr hasattr setattr Exception ValueError TypeError KeyError IndexError LookupError
ZeroDivisionError ArithmeticError OverflowError RuntimeError NotImplementedError AttributeError StopIteration
NotImplemented iter next map super property""".split())
METHODS = set("""append clear copy count endswith extend find get index insert isalnum isalpha isdigit islower isspace isupper
items join keys ljust lower lstrip partition pop remove replace reverse rfind rjust rpartition rsplit rstrip setdefault split
splitlines startswith strip update upper values zfill bit_length discard add sort""".split())
NODES = """Module Expr Constant Import ImportFrom alias FunctionDef ClassDef arguments arg Return Assign AugAssign Delete For
While If Raise Try ExceptHandler Assert Pass Break Continue Name Load Store Del Attribute Subscript Slice Starred Tuple List
Dict ListComp DictComp SetComp comprehension Call keyword Compare BoolOp BinOp UnaryOp IfExp JoinedStr FormattedValue And Or
Not USub Add Sub Mult FloorDiv Mod Eq NotEq Lt LtE Gt GtE Is IsNot In NotIn Lambda""".split()
NEVER = set("register mro elements open input law version_info with_traceback add_note".split())
NOT_NAMES = NEVER | set("""attrgetter breakpoint builtins compile copyright credits delattr dir eval exec exit gc getattr globals
hasattr help id importlib license locals methodcaller os quit setattr super type vars sys""".split())
WORDS = set("""type typing typing_extensions enum Enum IntEnum StrEnum Flag IntFlag Generic Protocol ABC ABCMeta namedtuple
NamedTuple TypedDict TYPE_CHECKING abstractmethod""".split())
DOUBLE = set("__init__".split())


def sources():
    return [(path, path.read_text(encoding="utf-8")) for path in FILES if path.is_file()]


def trees():
    return [(path, ast.parse(text)) for path, text in sources()]


def nodes(*kinds):
    return [(path, node) for path, tree in trees() for node in ast.walk(tree) if isinstance(node, kinds)]


def bound_names():
    """Return the pairs of a file and a name that it binds: functions, classes, variables, parameters, errors."""
    found = [(path, node.name) for path, node in nodes(ast.FunctionDef, ast.ClassDef)]
    found += [(path, node.id) for path, node in nodes(ast.Name) if isinstance(node.ctx, ast.Store)]
    found += [(path, node.arg) for path, node in nodes(ast.arg)]
    found += [(path, node.name) for path, node in nodes(ast.ExceptHandler) if node.name]
    return found


class LanguageTests(unittest.TestCase):
    def test_files(self):
        self.assertIn(PACKAGE / "__init__.py", FILES)
        for path in FILES:
            self.assertTrue(path.is_file() and re.fullmatch(r"[a-z0-9_]+\.py", path.name), path)
            self.assertNotIn(path.stem, dir(builtins))

    def test_sizes_and_characters(self):
        for path, text in sources():
            lines = text.split("\n")
            self.assertLessEqual(len(lines), 400, path)
            self.assertLessEqual(max([len(line) for line in lines]), 120, path)
            self.assertTrue(all([character == "\n" or " " <= character <= "~" for character in text]), path)
        for path, node in nodes(ast.FunctionDef):
            self.assertLessEqual(node.end_lineno - node.lineno + 1, 40, (path, node.name))

    def test_kinds_of_nodes(self):
        for path, tree in trees():
            for node in ast.walk(tree):
                self.assertIn(type(node).__name__, NODES, (path, getattr(node, "lineno", 0)))
                if isinstance(node, ast.Constant):
                    self.assertIn(type(node.value), (int, str, bool, type(None)), path)

    def test_imports(self):
        defined = {path.stem: {node.name for node in tree.body if isinstance(node, (ast.FunctionDef, ast.ClassDef))}
                   | {node.targets[0].id for node in tree.body if isinstance(node, ast.Assign)} for path, tree in trees()}
        leads = {path.stem: set() for path, _ in trees()}
        for path, node in nodes(ast.Import, ast.ImportFrom):
            self.assertIsInstance(node, ast.ImportFrom)
            package, _, module = node.module.partition(".")
            self.assertEqual((package, node.level), ("retroact", 0), path)
            for name in node.names:
                self.assertIn(name.name, defined[module], path)
                self.assertIsNone(name.asname)
            leads[path.stem].add(module)
        while leads:
            ends = [name for name in leads if not leads[name]]
            self.assertTrue(ends, f"files import from each other: {leads}")
            leads = {name: leads[name] - set(ends) for name in leads if name not in ends}

    def test_module_level(self):
        for path, tree in trees():
            bound = []
            for at, node in enumerate(tree.body):
                is_docstring = at == 0 and isinstance(node, ast.Expr)
                self.assertTrue(is_docstring or isinstance(node, (ast.ImportFrom, ast.FunctionDef, ast.ClassDef, ast.Assign)))
                if isinstance(node, ast.ImportFrom):
                    bound += [name.name for name in node.names]
                elif isinstance(node, (ast.FunctionDef, ast.ClassDef)):
                    bound.append(node.name)
                elif isinstance(node, ast.Assign):
                    bound += [target.id for target in node.targets]
                    inner = list(ast.walk(node.value))[1:]
                    self.assertFalse([part for part in inner if isinstance(part, (ast.List, ast.Dict, ast.Call))], path)
            self.assertEqual(len(set(bound)), len(bound), path)
            inside = [node.id for node in ast.walk(tree) if isinstance(node, ast.Name) and isinstance(node.ctx, ast.Store)]
            inside += [node.arg for node in ast.walk(tree) if isinstance(node, ast.arg)]
            functions = [name for name in bound if name.islower() or name[0].isupper() and not name.isupper()]
            self.assertEqual(set(inside) & set(functions), set(), path)

    def test_names(self):
        for path, name in bound_names():
            if name not in DOUBLE:
                self.assertNotIn(name, dir(builtins), path)
                self.assertNotIn(name, NOT_NAMES, path)
                self.assertFalse(name.startswith("__"), path)
                self.assertFalse(re.match(r"_(wall|pe_|dcw_|enum_|cm_|twin_re_|lay_|law_|stub_|sre|WallAttr)", name), path)
                self.assertFalse(re.match(r"_(cold|tuplegetter|outside|record|written_out|member_names)[\d_]*$", name), path)
        for path, node in nodes(ast.Name):
            if isinstance(node.ctx, ast.Load) and node.id in dir(builtins):
                self.assertIn(node.id, BUILTINS, path)

    def test_attributes_and_methods(self):
        methods = {node.name for _, owner in nodes(ast.ClassDef) for node in owner.body if isinstance(node, ast.FunctionDef)}
        methods -= DOUBLE
        for kind in (str, int, list, dict, set, bytes, tuple):
            self.assertEqual(methods & set(dir(kind)), set(), kind)
        assigned = {node.attr for _, node in nodes(ast.Attribute) if isinstance(node.ctx, ast.Store)}
        self.assertEqual(assigned & (METHODS | NEVER | {"args", "encode", "decode", "hex", "format"}) - {"count", "index"}, set())
        for path, node in nodes(ast.Attribute):
            self.assertIn(node.attr, methods | assigned | METHODS | DOUBLE, (path, node.lineno))
            self.assertNotIn(node.attr, NEVER)

    def test_methods_are_no_attributes_of_their_classes(self):
        for path, owner in nodes(ast.ClassDef):
            methods = [node.name for node in owner.body if isinstance(node, ast.FunctionDef)]
            stored = [node.attr for node in ast.walk(owner) if isinstance(node, ast.Attribute) and isinstance(node.ctx, ast.Store)]
            self.assertEqual(set(methods) & set(stored), set(), (path, owner.name))
            self.assertEqual(len(set(methods)), len(methods), (path, owner.name))

    def test_sets(self):
        for path, tree in trees():
            in_place = [id(argument) for node in ast.walk(tree) if isinstance(node, ast.Call)
                        and isinstance(node.func, ast.Name) and node.func.id in ("len", "sorted") for argument in node.args]
            for node in ast.walk(tree):
                is_set = isinstance(node, (ast.Set, ast.SetComp)) or (
                    isinstance(node, ast.Call) and isinstance(node.func, ast.Name) and node.func.id in ("set", "frozenset"))
                self.assertTrue(not is_set or id(node) in in_place, (path, getattr(node, "lineno", 0)))

    def test_strings_and_words(self):
        for path, text in sources():
            docstrings = [node.body[0].value.value for node in ast.walk(ast.parse(text))
                          if isinstance(node, (ast.Module, ast.ClassDef, ast.FunctionDef)) and ast.get_docstring(node)]
            for token in tokenize.generate_tokens(io.StringIO(text).readline):
                is_plain = token.type == tokenize.STRING and token.string[0] in "\"'"
                is_docstring = is_plain and ast.literal_eval(token.string) in docstrings
                if token.type == tokenize.COMMENT or is_docstring:
                    self.assertTrue(token.type == tokenize.COMMENT or "%" not in token.string, path)
                    continue
                self.assertEqual(set(re.findall(r"\w+", token.string)) & WORDS, set(), (path, token.start))
                self.assertFalse(re.search("dataclass|overload|contextmanager", token.string), path)
                if token.type == tokenize.STRING:
                    self.assertNotIn("%", token.string, path)
                    self.assertFalse(re.search(r"\\[^nt\\'\"]", token.string), path)
                    self.assertFalse(re.search(r"\._{1,2}[\"']$", token.string), path)
            self.assertNotIn("_wall", text)
            self.assertNotIn("_WallAttr", text)

    def test_errors_that_are_caught_and_raised(self):
        classes = {node.name for _, node in nodes(ast.ClassDef)}
        for path, node in nodes(ast.ExceptHandler):
            self.assertIsInstance(node.type, ast.Name, path)
            self.assertIn(node.type.id, classes | {"KeyError", "ZeroDivisionError"}, path)
        for path, node in nodes(ast.Raise):
            self.assertTrue(node.exc is None or isinstance(node.exc, ast.Call) and node.exc.func.id in classes, path)

    def test_loops_go_over_what_they_do_not_change(self):
        for path, loop in nodes(ast.For):
            over = ast.unparse(loop.iter)
            for node in ast.walk(loop):
                if isinstance(node, ast.Call) and isinstance(node.func, ast.Attribute):
                    if node.func.attr in ("append", "extend", "pop", "insert", "remove", "clear", "update"):
                        self.assertNotEqual(ast.unparse(node.func.value), over, (path, loop.lineno))


if __name__ == "__main__":
    unittest.main()
