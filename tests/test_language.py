"""The package keeps to the small part of Python that it is written in, rule by rule (L1 to L28).

Where the package has no need of what a rule allows, the rule is held more narrowly here.
"""

import ast
import builtins
import io
import pathlib
import re
import tokenize
import unittest

PACKAGE = pathlib.Path(__file__).resolve().parent.parent / "fewstatements"

NODES = set(
    "Module ImportFrom alias FunctionDef ClassDef arguments arg Return Assign AugAssign For While If Raise Try "
    "ExceptHandler Expr Pass Break Continue BoolOp BinOp UnaryOp IfExp Dict ListComp comprehension Compare Call "
    "JoinedStr FormattedValue Constant Attribute Subscript Name List Tuple Slice keyword Load Store And Or Add Sub "
    "Mult FloorDiv Mod LShift RShift BitOr BitXor BitAnd Invert Not UAdd USub Eq NotEq Lt LtE Gt GtE Is IsNot In "
    "NotIn".split()
)
CALLED = set(
    "len range enumerate zip min max sum abs sorted reversed int str bool list tuple dict set frozenset isinstance "
    "ord repr any all divmod".split()
)
ERRORS = set(
    "Exception ValueError TypeError KeyError IndexError LookupError ZeroDivisionError ArithmeticError OverflowError "
    "RuntimeError NotImplementedError".split()
)
METHODS = set(
    "append clear copy count endswith extend find get index insert isalnum isalpha isdigit islower isspace isupper "
    "items join keys ljust lower lstrip partition pop remove replace reverse rfind rjust rpartition rsplit rstrip "
    "setdefault split splitlines startswith strip update upper values zfill bit_length".split()
)
CHANGING = set("append clear extend insert pop remove reverse setdefault update".split())
KEYWORDS = {
    "sorted": {"key", "reverse"}, "min": {"key", "default"}, "max": {"key", "default"}, "sum": {"start"},
    "enumerate": {"start"}, "zip": {"strict"},
}
WALKED = set("zip enumerate reversed range items keys values".split())
WALKERS = set("list tuple dict sorted sum any all enumerate zip min max".split())
PYTHONS_OWN = {name for kind in (str, int, list, tuple, dict, set, frozenset, bytes) for name in dir(kind)}
PYTHONS_OWN |= {"args", "mro", "with_traceback", "add_note", "version_info"}
WORDS = re.compile(
    r"\b(type|typing|typing_extensions|enum|Enum|IntEnum|StrEnum|Flag|IntFlag|Generic|Protocol|ABC|ABCMeta|"
    r"namedtuple|NamedTuple|TypedDict|TYPE_CHECKING|abstractmethod)\b|dataclass|overload|contextmanager"
)
NOT_NAMES = set(
    "register mro elements open input version_info with_traceback add_note attrgetter breakpoint builtins compile "
    "copyright credits delattr dir eval exec exit gc getattr globals hasattr help id importlib license locals "
    "methodcaller os quit setattr super type vars sys".split()
)
FILE_NAMES = set("test tests testing site conftest sitecustomize usercustomize typing enum".split())


class Source:
    """One file's text and tree, and for each node the one above it."""

    def __init__(self, name, text):
        self.name = name
        self.text = text
        self.tree = ast.parse(text)
        self.nodes = list(ast.walk(self.tree))
        self.above = {below: node for node in self.nodes for below in ast.iter_child_nodes(node)}
        self.classes = {node.name for node in self.tree.body if isinstance(node, ast.ClassDef)}
        self.functions = {node.name for node in self.tree.body if isinstance(node, ast.FunctionDef)}
        self.values = {
            node.targets[0].id for node in self.tree.body
            if isinstance(node, ast.Assign) and isinstance(node.targets[0], ast.Name)
        }
        self.imports = [node for node in self.nodes if isinstance(node, ast.ImportFrom)]
        self.imported = {item.name for node in self.imports for item in node.names}

    def of(self, *kinds):
        return [node for node in self.nodes if isinstance(node, kinds)]


def own_classes(sources):
    return {name for source in sources for name in source.classes}


def called_name(node):
    """The name of the function or method that is called."""
    if isinstance(node, ast.Call):
        return getattr(node.func, "id", getattr(node.func, "attr", ""))
    return ""


def is_plain(node):
    if isinstance(node, ast.UnaryOp):
        node = node.operand
    if isinstance(node, ast.Tuple):
        return all(is_plain(part) for part in node.elts)
    return isinstance(node, ast.Constant)


def is_text(node):
    return isinstance(node, ast.Expr) and isinstance(node.value, ast.Constant) and isinstance(node.value.value, str)


def names_bound(source):
    """Nodes that bind a parameter or a local, with their names."""
    found = [(node, node.arg) for node in source.of(ast.arg)]
    found += [(node, node.name) for node in source.of(ast.ExceptHandler) if node.name]
    top = [node.targets[0] for node in source.tree.body if isinstance(node, ast.Assign)]
    stored = [node for node in source.of(ast.Name) if isinstance(node.ctx, ast.Store)]
    return found + [(node, node.id) for node in stored if node not in top]


def circle(edges):
    """A name from which a walk along the edges comes back, or None."""
    for start in edges:
        seen = set()
        due = list(edges[start])
        while due:
            name = due.pop()
            if name == start:
                return start
            if name not in seen:
                seen.add(name)
                due.extend(edges.get(name, ()))
    return None


def faults_of_files(source, sources):
    stem = source.name[:-3]
    if not re.fullmatch(r"(__init__|[a-z][a-z0-9_]*)\.py", source.name):
        yield "L1", None
    if stem in FILE_NAMES or stem.startswith("test_") or (stem != "__init__" and hasattr(builtins, stem)):
        yield "L14", None
    for number, line in enumerate(source.text.split("\n"), start=1):
        if not re.fullmatch(r"[ -~]*", line):
            yield "L14", number
        if len(line) > 120:
            yield "L10", number
        if WORDS.search(line):
            yield "L17", number
    if len(source.text.split("\n")) > 400:
        yield "L10", None


def faults_of_imports(source, sources):
    files = {other.name[:-3]: other for other in sources}
    for node in source.imports:
        parts = (node.module or "").split(".")
        if node.level or len(parts) != 2 or parts[0] != "fewstatements" or parts[1] not in files:
            yield "L2", node
            continue
        other = files[parts[1]]
        if not {item.name for item in node.names} <= other.classes | other.functions | other.values:
            yield "L16", node
        if any(item.asname for item in node.names):
            yield "L16", node
    edges = {
        other.name[:-3]: [(node.module or "").split(".")[-1] for node in other.imports] for other in sources
    }
    if circle(edges) is not None:
        yield "L16", None
    if source.name == "__init__.py" and len(source.tree.body) != 1:
        yield "L16", None


def faults_of_the_top(source, sources):
    seen = set()
    defined = False
    for place, node in enumerate(source.tree.body):
        if isinstance(node, ast.ImportFrom):
            if defined:
                yield "L2", node
        elif isinstance(node, (ast.FunctionDef, ast.ClassDef)):
            defined = True
        elif isinstance(node, ast.Assign):
            defined = True
            if not isinstance(node.targets[0], ast.Name) or not is_plain(node.value):
                yield "L3", node
        elif place or not is_text(node):
            yield "L3", node
        name = getattr(node, "name", None) or getattr(getattr(node, "targets", [None])[0], "id", None)
        if name in seen or name in source.imported:
            yield "L15", node
        if name is not None:
            seen.add(name)


def faults_of_functions(source, sources):
    for node in source.of(ast.FunctionDef):
        given = node.args
        if given.vararg or given.kwarg or given.kwonlyargs or given.posonlyargs or node.decorator_list:
            yield "L4", node
        if not all(is_plain(value) for value in given.defaults):
            yield "L4", node
        if not isinstance(source.above[node], (ast.Module, ast.ClassDef)):
            yield "L4", node
        if node.returns or any(part.annotation for part in given.args):
            yield "L21", node
        if node.end_lineno - node.lineno + 1 > 40:
            yield "L10", node
        if node.name == "__init__" and any(isinstance(part, ast.Return) and part.value for part in ast.walk(node)):
            yield "L28", node


def faults_of_recursion(source, sources):
    edges = {}
    for other in sources:
        for node in other.of(ast.FunctionDef):
            called = {called_name(part) for part in ast.walk(node)}
            # A base's __init__ is another one.
            edges.setdefault(node.name, []).extend(called - {"__init__"})
    if circle(edges) is not None:
        yield "L11", None


def faults_of_classes(source, sources):
    own = own_classes(sources)
    for node in source.of(ast.ClassDef):
        methods = [part for part in node.body if isinstance(part, ast.FunctionDef)]
        names = [part.name for part in methods]
        if node.decorator_list or node.keywords or len(node.bases) > 1:
            yield "L5", node
        if not all(getattr(base, "id", "") in own | ERRORS for base in node.bases):
            yield "L5", node
        if any(part not in methods and not is_text(part) for part in node.body):
            yield "L5", node
        if any(name.startswith("__") and name != "__init__" for name in names):
            yield "L28", node
        if len(set(names)) != len(names):
            yield "L18", node
        if source.above[node] != source.tree:
            yield "L15", node
    for node in source.of(ast.Name):
        above = source.above[node]
        stands = isinstance(above, (ast.ClassDef, ast.ExceptHandler)) or getattr(above, "func", None) == node
        if node.id in own and not stands and called_name(above) != "isinstance":
            yield "L18", node
    for node in source.of(ast.Attribute):
        if not isinstance(node.ctx, ast.Load):
            if getattr(node.value, "id", "") in own | source.values | source.functions:
                yield "L18", node


def faults_of_statements(source, sources):
    own = own_classes(sources)
    for node in source.nodes:
        if type(node).__name__ not in NODES:
            yield "L6/L7", node
    for node in source.of(ast.For, ast.While):
        if node.orelse:
            yield "L6", node
    for node in source.of(ast.Assign):
        if len(node.targets) != 1 or isinstance(node.targets[0], (ast.Tuple, ast.List)):
            yield "L6", node
    for node in source.of(ast.Expr):
        if not is_text(node) and not isinstance(node.value, ast.Call):
            yield "L6", node
    for node in source.of(ast.Try):
        if node.finalbody:
            yield "L6", node
    for node in source.of(ast.ExceptHandler):
        if getattr(node.type, "id", "") not in own | {"KeyError", "ZeroDivisionError", "StopIteration"}:
            yield "L19", node
    for node in source.of(ast.Raise):
        if called_name(node.exc) not in own:
            yield "L19", node


def faults_of_expressions(source, sources):
    for node in source.of(ast.Constant):
        if not isinstance(node.value, (int, str, type(None))):
            yield "L7", node
        if isinstance(node.value, str) and "%" in node.value:
            yield "L27", node
        if isinstance(node.value, int) and abs(node.value) >= 10 ** 900:
            yield "L27", node
    for node in source.of(ast.ListComp):
        if len(node.generators) != 1 or len(node.generators[0].ifs) > 1:
            yield "L7", node
    for node in source.of(ast.FormattedValue):
        if not isinstance(node.value, ast.Name) or node.format_spec or node.conversion not in (-1, ord("r")):
            yield "L7", node
    for node in source.of(ast.Compare):
        sides = [node.left] + node.comparators
        for place, operator in enumerate(node.ops):
            pair = [getattr(side, "value", 0) for side in sides[place:place + 2] if isinstance(side, ast.Constant)]
            if isinstance(operator, (ast.Is, ast.IsNot)) and not any(
                value is None or value is True or value is False for value in pair
            ):
                yield "L20", node
    for part in tokenize.generate_tokens(io.StringIO(source.text).readline):
        if part.type == tokenize.STRING and re.search(r"\\[^nt\\'\"]", part.string.replace("\\\\", "")):
            yield "L27", part.start[0]


def faults_of_names(source, sources):
    for node in source.nodes:
        for part in ("id", "arg", "attr", "name", "asname"):
            name = getattr(node, part, None)
            if isinstance(name, str) and name != "__init__" and not re.fullmatch(r"[A-Za-z][A-Za-z0-9_]*", name):
                yield "L12", node
            if isinstance(name, str) and name in NOT_NAMES:
                yield "L17", node
    for node in source.of(ast.Name):
        if hasattr(builtins, node.id):
            if node.id not in CALLED | ERRORS:
                yield "L8", node
            elif node.id in CALLED and getattr(source.above[node], "func", None) != node:
                yield "L22", node
    taken = source.classes | source.imported
    for node, name in names_bound(source):
        if name in taken or hasattr(builtins, name):
            yield "L15", node
    for node in source.tree.body:
        if hasattr(builtins, getattr(node, "name", getattr(getattr(node, "targets", [0])[0], "id", "")) or ""):
            yield "L8", node


def faults_of_calls(source, sources):
    for node in source.of(ast.Call):
        name = called_name(node)
        if isinstance(node.func, ast.Name) and hasattr(builtins, name):
            if not {part.arg for part in node.keywords} <= KEYWORDS.get(name, set()):
                yield "L22", node
        elif node.keywords and name in PYTHONS_OWN:
            yield "L22", node
        if name in WALKED and not is_walked_at_once(source, node):
            yield "L23", node
        if name in ("set", "frozenset") and not is_used_at_once(source, node):
            yield "L24", node


def is_walked_at_once(source, node):
    above = source.above[node]
    if isinstance(above, (ast.For, ast.comprehension)):
        return above.iter == node
    return isinstance(above, ast.Call) and called_name(above) in WALKERS and above.args[:1] == [node]


def is_used_at_once(source, node):
    above = source.above[node]
    while isinstance(above, ast.BinOp):
        above = source.above[above]
    return isinstance(above, ast.Compare) or (called_name(above) in ("sorted", "len") and not above.keywords)


def faults_of_walks(source, sources):
    for loop in source.of(ast.For):
        walked = [loop.iter]
        if isinstance(loop.iter, ast.Call) and called_name(loop.iter) in WALKED - {"range"}:
            walked = list(loop.iter.args) + [getattr(loop.iter.func, "value", loop.iter)]
        texts = {ast.unparse(part) for part in walked}
        for node in [part for line in loop.body for part in ast.walk(line)]:
            if isinstance(node, ast.Call) and isinstance(node.func, ast.Attribute) and node.func.attr in CHANGING:
                if ast.unparse(node.func.value) in texts:
                    yield "L23", node
            if isinstance(node, ast.Subscript) and isinstance(node.ctx, ast.Store):
                if ast.unparse(node.value) in texts:
                    yield "L23", node


def faults_of_methods(source, sources):
    methods = set()
    values = set()
    for other in sources:
        for node in other.of(ast.ClassDef):
            methods.update(part.name for part in node.body if isinstance(part, ast.FunctionDef))
        values.update(node.attr for node in other.of(ast.Attribute) if isinstance(node.ctx, ast.Store))
    if methods & values:
        yield "L18", None
    if (methods | values) & (PYTHONS_OWN - {"__init__"}):
        yield "L26", None
    for node in source.of(ast.Attribute):
        if node.attr in PYTHONS_OWN and node.attr != "__init__":
            if node.attr not in METHODS or getattr(source.above[node], "func", None) != node:
                yield "L25", node


LOOKS = (
    faults_of_files, faults_of_imports, faults_of_the_top, faults_of_functions, faults_of_recursion,
    faults_of_classes, faults_of_statements, faults_of_expressions, faults_of_names, faults_of_calls,
    faults_of_walks, faults_of_methods,
)


def faults(sources):
    """Each fault of these files: its rule, the file and the line."""
    found = []
    for source in sources:
        for look in LOOKS:
            for rule, place in look(source, sources):
                found.append((rule, source.name, getattr(place, "lineno", place)))
    return found


# For each rule, texts that break it: the package's files would be found out likewise.
BROKEN = (
    ("L3", "import sys"),
    ("L2", "from os import path"),
    ("L2", "from .other import ONE"),
    ("L2", "ONE = 1\nfrom fewstatements.other import TWO"),
    ("L3", "print(1)"),
    ("L3", "ONE = len('a')"),
    ("L3", "ONE = []"),
    ("L4", "def one(*rest):\n    return rest"),
    ("L4", "def one(first, *, second):\n    return first"),
    ("L4", "def one():\n    def two():\n        return 1\n    return two()"),
    ("L5", "class One:\n    two = 2"),
    ("L5", "class One(dict):\n    pass"),
    ("L6/L7", "def one(xs):\n    with xs:\n        pass"),
    ("L6/L7", "def one(xs):\n    del xs[0]"),
    ("L6/L7", "def one(xs):\n    return {x for x in xs}"),
    ("L6/L7", "def one(x):\n    return x / 2"),
    ("L6/L7", "def one(x):\n    return 2 ** x"),
    ("L6/L7", "def one(xs):\n    return lambda x: x"),
    ("L6", "def one(xs):\n    for x in xs:\n        pass\n    else:\n        pass"),
    ("L6", "def one(x):\n    a = b = x\n    return a + b"),
    ("L6", "def one(x):\n    a, b = x\n    return a + b"),
    ("L7", "def one():\n    return 1.5"),
    ("L7", "def one():\n    return b'a'"),
    ("L7", "def one(xs):\n    return [x for ys in xs for x in ys]"),
    ("L7", "def one(x):\n    return f'{x + 1}'"),
    ("L8", "def one(x):\n    return hash(x)"),
    ("L8", "def one(x):\n    print(x)"),
    ("L8", "def one(x):\n    return chr(x)"),
    ("L8", "def filter(x):\n    return x"),
    ("L10", "def one(x):\n" + "    x += 1\n" * 40),
    ("L10", "ONE = 1  # " + "a" * 120),
    ("L10", "# more\n" * 401),
    ("L11", "def one(x):\n    return two(x)\n\n\ndef two(x):\n    return one(x)"),
    ("L12", "def one(xs):\n    for _ in xs:\n        pass"),
    ("L12", "def _one(x):\n    return x"),
    ("L14", "# \u00e4"),
    ("L14", "def one(x):\n\treturn x"),
    ("L15", "ONE = 1\nONE = 2"),
    ("L15", "def one(max):\n    return max"),
    ("L15", "from fewstatements.other import TWO\n\n\ndef one(TWO):\n    return TWO"),
    ("L15", "def one():\n    class Two:\n        pass\n    return Two()"),
    ("L16", "from fewstatements.other import THREE"),
    ("L17", "# a type"),
    ("L17", "def one(x):\n    return x.elements"),
    ("L17", "def one(x):\n    return getattr(x, 'a')"),
    ("L18", "class One:\n    pass\n\n\ndef one():\n    return [One]"),
    ("L18", "class One:\n    pass\n\n\ndef one():\n    One.two = 1"),
    ("L18", "class One:\n    def two(self):\n        pass\n\n    def two(self):\n        pass"),
    ("L18", "class One:\n    def __init__(self):\n        self.two = 2\n\n    def two(self):\n        pass"),
    ("L19", "def one(x):\n    try:\n        return x[0]\n    except Exception:\n        return 0"),
    ("L19", "def one(x):\n    try:\n        return x[0]\n    except:\n        return 0"),
    ("L19", "def one(x):\n    raise x"),
    ("L20", "def one(x):\n    return x is 1"),
    ("L21", "def one(x: int):\n    return x"),
    ("L21", "def one(x) -> int:\n    return x"),
    ("L22", "def one(xs):\n    return map(len, xs)"),
    ("L22", "def one(x):\n    return int(x, base=2)"),
    ("L23", "def one(xs):\n    ys = reversed(xs)\n    return list(ys)"),
    ("L23", "def one(d):\n    return d.items()"),
    ("L23", "def one(xs):\n    for x in xs:\n        xs.append(x)"),
    ("L23", "def one(d):\n    for k, v in d.items():\n        d[k] = v + 1"),
    ("L24", "def one(xs):\n    ys = set(xs)\n    return ys"),
    ("L24", "def one(xs):\n    for x in set(xs):\n        pass"),
    ("L25", "def one(xs):\n    xs.sort()"),
    ("L25", "def one(x):\n    return x.title()"),
    ("L25", "def one(xs):\n    return xs.append"),
    ("L26", "class One:\n    def __init__(self):\n        self.sort = 1"),
    ("L27", "ONE = 'a % b'"),
    ("L27", "ONE = '\\x41'"),
    ("L28", "class One:\n    def __init__(self):\n        return None"),
    ("L28", "class One:\n    def __hash__(self):\n        return 1"),
)


class Language(unittest.TestCase):
    def test_nothing_but_files_lies_in_the_package(self):
        names = sorted(path.name for path in PACKAGE.iterdir() if path.name != "__pycache__")
        self.assertEqual(names, sorted(path.name for path in PACKAGE.glob("*.py")))
        self.assertIn("__init__.py", names)

    def test_the_package(self):
        sources = [Source(path.name, path.read_text(encoding="utf-8")) for path in sorted(PACKAGE.glob("*.py"))]
        self.assertGreater(len(sources), 1)
        self.assertEqual(faults(sources), [])

    def test_broken_rules_are_found(self):
        other = Source("other.py", "TWO = 2")
        for rule, text in BROKEN:
            with self.subTest(rule=rule, text=text):
                self.assertIn(rule, [found[0] for found in faults([Source("one.py", text), other])])

    def test_broken_names_of_files_are_found(self):
        for rule, name in (("L1", "One.py"), ("L1", "one-two.py"), ("L14", "test_one.py"), ("L14", "filter.py")):
            with self.subTest(name=name):
                self.assertIn(rule, [found[0] for found in faults([Source(name, "")])])

    def test_files_that_draw_from_one_another_are_found(self):
        one = Source("one.py", "from fewstatements.two import TWO\n\nONE = 1")
        two = Source("two.py", "from fewstatements.one import ONE\n\nTWO = 2")
        self.assertIn("L16", [found[0] for found in faults([one, two])])
        self.assertIn("L16", [found[0] for found in faults([Source("__init__.py", "'''One.'''\nONE = 1")])])


if __name__ == "__main__":
    unittest.main()
