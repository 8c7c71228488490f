"""What a script can see of the rules for the language of the package."""

import ast
import builtins
import os
import re
import textwrap
import unittest

ROOT = os.path.dirname(os.path.dirname(os.path.abspath(__file__)))
PACKAGE = "drawnmore"

INTERFACE = {
    "limits.py": {"MOST_DRAWS", "MOST_SLIPS", "MOST_ROWS", "MOST_CHANGES"},
    "errors.py": {
        "WrongValue", "InvalidText", "InvalidName", "InvalidIndex", "InvalidNumber", "InvalidChance", "InvalidWish",
        "NotRow", "InvalidCounts", "InvalidRows", "InvalidUrns", "InvalidChanges", "InvalidWishes", "WrongName",
        "UnknownName", "InUse", "NotPossible", "NoUrns", "NoChance", "OtherDraws", "NoMore", "NothingToUndo", "Broken",
    },
    "rows.py": {"Row"},
    "making.py": {"urn_row", "urns_row", "coin_row", "mixed", "all_yes", "swapped", "fewer", "behind"},
    "extending.py": {"comes", "urns", "against", "always", "greatest"},
    "further.py": {"next_chances", "next_yes", "most_share", "least_share", "stretch"},
    "mends.py": {"holds", "mends"},
    "watches.py": {"Watch"},
    "consoles.py": {"Console"},
    "libraries.py": {"Library"},
    "checker.py": {"accepts"},
    "certificates.py": {"certify_comes", "certify_greatest", "certify_next", "certify_share"},
}
CLASS_METHODS = {
    ("rows.py", "Row"): {
        "read", "counts", "rates", "draws", "text", "changed", "__eq__", "__len__", "__str__", "__repr__",
    },
    ("watches.py", "Watch"): {
        "note", "undo", "row", "noted", "rest", "trial", "tried", "__len__", "__bool__",
    },
    ("consoles.py", "Console"): {"do", "names"},
    ("libraries.py", "Library"): {
        "__setitem__", "__getitem__", "remove", "wish", "lift", "undo", "names", "wishes", "changes", "__contains__",
        "__len__", "__bool__", "trial", "tried",
    },
}

LIBRARY = {
    "math": {"gcd", "lcm", "isqrt", "comb", "perm", "factorial"},
    "heapq": {"heappush", "heappop", "heapify", "heapreplace", "heappushpop"},
    "itertools": set("product combinations permutations chain accumulate pairwise islice zip_longest".split()),
    "collections": {"defaultdict", "deque"},
}
ERRORS = set(
    "Exception ValueError TypeError KeyError IndexError LookupError ZeroDivisionError ArithmeticError OverflowError"
    " RuntimeError NotImplementedError AttributeError StopIteration".split()
)
USABLE = ERRORS | set(
    "len range enumerate zip min max sum abs sorted reversed int str bool bytes list tuple dict set frozenset"
    " isinstance ord repr any all divmod pow NotImplemented super property classmethod staticmethod iter next"
    " getattr hasattr setattr map type object".split()
)
KEYWORDS = {
    "sorted": {"key", "reverse"}, "min": {"key", "default"}, "max": {"key", "default"}, "sum": {"start"},
    "enumerate": {"start"}, "zip": {"strict"},
}
METHODS = set(
    "append clear copy count endswith extend find get index insert isalnum isalpha isdigit islower isspace isupper"
    " items join keys ljust lower lstrip partition pop remove replace reverse rfind rjust rpartition rsplit rstrip"
    " setdefault split splitlines startswith strip update upper values zfill bit_length title capitalize swapcase"
    " casefold center expandtabs removeprefix removesuffix rindex isascii isdecimal isnumeric istitle isidentifier"
    " isprintable add discard".split()
)
DOUBLE = set(
    "__init__ __eq__ __repr__ __str__ __len__ __enter__ __exit__ __call__ __iter__ __lt__ __le__ __gt__ __ge__ __ne__"
    " __contains__ __getitem__ __setitem__ __bool__ __add__ __sub__ __mul__ __neg__".split()
)
PARAMETERS = {
    "__getitem__": ["self", "at"], "__setitem__": ["self", "at", "worth"], "__contains__": ["self", "x"],
    "__bool__": ["self"], "__iter__": ["self"], "__enter__": ["self"], "__exit__": ["self", "kind", "value", "trace"],
}
STATEMENTS = (
    ast.Assign, ast.AugAssign, ast.If, ast.While, ast.For, ast.Return, ast.Break, ast.Continue, ast.Pass, ast.Raise,
    ast.Assert, ast.Delete, ast.Nonlocal, ast.Match, ast.With, ast.Try, ast.Expr, ast.FunctionDef, ast.ClassDef,
    ast.ImportFrom,
)
EXPRESSIONS_BARRED = (
    ast.Await, ast.AsyncFor, ast.AsyncWith, ast.AsyncFunctionDef, ast.Global, ast.AnnAssign, ast.Set, ast.SetComp,
    ast.Div, ast.MatMult, ast.GeneratorExp,
)
NEVER = set("mro elements open input law version_info with_traceback add_note register".split())
NO_VARIABLES = set(
    "attrgetter breakpoint builtins compile copyright credits delattr dir eval exec exit gc getattr globals hasattr"
    " help id importlib license locals methodcaller os quit setattr super type vars sys".split()
)
WORDS = set(
    "type typing typing_extensions enum Enum IntEnum StrEnum Flag IntFlag Generic Protocol ABC ABCMeta namedtuple"
    " NamedTuple TypedDict TYPE_CHECKING abstractmethod _wall _WallAttr".split()
)
PARTS = ("dataclass", "overload", "contextmanager", "(type)", "Meta", "metaclass=")
PLAIN = (ast.Constant, ast.Tuple, ast.List, ast.Dict, ast.BinOp, ast.UnaryOp, ast.operator, ast.unaryop, ast.Load,
         ast.Name)
NAMED = (ast.Pass, ast.Assign, ast.Name, ast.Attribute, ast.Constant, ast.Tuple, ast.List, ast.Load, ast.Store)
AT_ONCE = {"list", "tuple", "dict", "sorted", "sum", "any", "all", "enumerate", "zip", "min", "max"}


class Sight:
    """What is seen in one file, as triples of a rule, a line and words."""

    def __init__(self, source, own_methods=(), own_attributes=()):
        self.source = source
        self.tree = ast.parse(source)
        self.found = []
        self.own = set(own_methods) | set(own_attributes)
        self.parents = {}
        for node in ast.walk(self.tree):
            for child in ast.iter_child_nodes(node):
                self.parents[child] = node
        self.imports = {
            alias.name for node in self.tree.body if isinstance(node, ast.ImportFrom) for alias in node.names
        }
        self.classes = {node.name for node in ast.walk(self.tree) if isinstance(node, ast.ClassDef)}
        self.functions = {node.name for node in ast.walk(self.tree) if isinstance(node, ast.FunctionDef)}

    def say(self, rule, node, words):
        self.found.append((rule, getattr(node, "lineno", node), words))

    def all(self):
        self.see_lines()
        self.see_module()
        for node in ast.walk(self.tree):
            self.see_statement(node)
            self.see_names(node)
            if isinstance(node, ast.FunctionDef):
                self.see_function(node)
            if isinstance(node, ast.ClassDef):
                self.see_class(node)
            if isinstance(node, ast.Call):
                self.see_call(node)
            if isinstance(node, ast.Constant):
                self.see_constant(node)
            self.see_expression(node)
        return self.found

    def see_lines(self):
        lines = self.source.split("\n")
        if len(lines) - 1 > 399:
            self.say("L10", len(lines), "a long file")
        for number, line in enumerate(lines, 1):
            if len(line) > 120:
                self.say("L10", number, "a long line")
            if any(not " " <= sign <= "~" for sign in line):
                self.say("L14", number, "a character")
            for word in WORDS & set(re.findall(r"\w+", line)):
                self.say("L17", number, word)
            for part in PARTS:
                if part in line:
                    self.say("L17", number, part)
        if not self.source.endswith("\n"):
            self.say("L14", len(lines), "no line feed at the end")

    def see_module(self):
        bound, imports_over = set(), False
        for place, node in enumerate(self.tree.body):
            names = []
            if isinstance(node, ast.ImportFrom):
                self.see_import(node)
                names = [alias.name for alias in node.names]
                if imports_over:
                    self.say("L2", node, "an import below")
            elif isinstance(node, (ast.FunctionDef, ast.ClassDef)):
                names, imports_over = [node.name], True
            elif isinstance(node, ast.Assign) and len(node.targets) == 1 and isinstance(node.targets[0], ast.Name):
                names, imports_over = [node.targets[0].id], True
                if not all(isinstance(part, PLAIN) for part in ast.walk(node.value)):
                    self.say("L3", node, "no plain value")
            elif place > 0 or not isinstance(node, ast.Expr) or not isinstance(node.value, ast.Constant):
                self.say("L3", node, "a statement at module level")
            for name in names:
                if name in bound:
                    self.say("L15", node, f"{name} bound again")
                bound.add(name)

    def see_import(self, node):
        for alias in node.names:
            own = (node.module or "").startswith(PACKAGE + ".") and node.level == 0 and alias.name != "*"
            if alias.asname or not (own or alias.name in LIBRARY.get(node.module, ())):
                self.say("L2", node, f"import of {alias.name}")

    def see_statement(self, node):
        if isinstance(node, ast.stmt) and not isinstance(node, STATEMENTS):
            self.say("L6", node, node.__class__.__name__)
        if isinstance(node, EXPRESSIONS_BARRED):
            self.say("L7", self.line(node), node.__class__.__name__)
        if isinstance(node, ast.Import):
            self.say("L2", node, "import without from")
        if isinstance(node, ast.ImportFrom) and not isinstance(self.parents[node], ast.Module):
            self.say("L2", node, "an import inside")
        if isinstance(node, ast.Expr) and not isinstance(node.value, ast.Call):
            if not (isinstance(node.value, ast.Constant) and isinstance(node.value.value, str)):
                self.say("L6", node, "a bare expression")
        if isinstance(node, ast.Raise) and node.exc is not None:
            if not (isinstance(node.exc, ast.Call) and isinstance(node.exc.func, ast.Name)):
                self.say("L19", node, "raise of what is not created on the spot")
        if isinstance(node, ast.ExceptHandler):
            caught = node.type.elts if isinstance(node.type, ast.Tuple) else [node.type]
            for error in caught:
                if not isinstance(error, ast.Name) or error.id in ERRORS - {"KeyError", "ZeroDivisionError"}:
                    self.say("L19", node, "a caught error")

    def line(self, node):
        while not hasattr(node, "lineno"):
            node = self.parents[node]
        return node.lineno

    def see_names(self, node):
        bound = None
        if isinstance(node, ast.Name) and not isinstance(node.ctx, ast.Load):
            bound = node.id
        elif isinstance(node, ast.arg):
            bound = node.arg
            if node.annotation is not None:
                self.say("L21", node, "an annotation")
        elif isinstance(node, (ast.FunctionDef, ast.ClassDef)):
            bound = node.name
        elif isinstance(node, ast.ExceptHandler):
            bound = node.name
        elif isinstance(node, (ast.Attribute, ast.keyword)):
            name = node.attr if isinstance(node, ast.Attribute) else node.arg
            self.see_word(self.line(node), name or "x")
            if name in ("format", "format_map"):
                self.say("L8", self.line(node), name)
        if bound is not None:
            self.see_word(node, bound)
            method = isinstance(node, ast.FunctionDef) and isinstance(self.parents[node], ast.ClassDef)
            if bound in NO_VARIABLES:
                self.say("L17", node, bound)
            if hasattr(builtins, bound) and not method:
                self.say("L15", node, f"{bound} is a builtin")
            local = not isinstance(node, (ast.FunctionDef, ast.ClassDef))
            if local and bound in self.imports | self.classes:
                self.say("L15", node, f"{bound} is an import or a class")

    def see_word(self, node, name):
        if name in NEVER or re.match(r"(f|tb|co|cr|gi)_[a-z]+$", name):
            self.say("L17", node, name)
        plain = re.fullmatch(r"_?[A-Za-z][A-Za-z0-9_]*|_", name) or name in DOUBLE
        if not plain or re.match(r"_(wall|pe_|dcw_|enum_|cm_|twin_re_|lay_|law_|stub_|sre)", name):
            self.say("L12", node, name)

    def see_function(self, node):
        first = min([node.lineno, *[line.lineno for line in node.decorator_list]])
        if node.end_lineno - first + 1 > 40:
            self.say("L10", node, f"{node.name} is long")
        method = isinstance(self.parents[node], ast.ClassDef)
        for decorator in node.decorator_list:
            name = getattr(decorator, "id", getattr(decorator, "attr", None))
            if not method or name not in ("property", "setter", "staticmethod", "classmethod"):
                self.say("L4", node, "a decorator")
        if node.name.startswith("__") and (not method or node.name not in DOUBLE):
            self.say("L28" if not method else "L5", node, node.name)
        if node.returns is not None:
            self.say("L21", node, "an annotation")
        for value in [*node.args.defaults, *node.args.kw_defaults]:
            if value is not None and not all(isinstance(part, PLAIN) for part in ast.walk(value)):
                self.say("L4", node, "a default value")

    def see_class(self, node):
        if not isinstance(self.parents[node], ast.Module) or node.decorator_list or node.keywords:
            self.say("L15", node, f"class {node.name}")
        for base in node.bases:
            own = isinstance(base, ast.Name) and base.id in self.classes | self.imports | ERRORS
            if not own or base.id in ("StopIteration", "AttributeError"):
                self.say("L18", node, "a base class")
        names = [part.name for part in node.body if isinstance(part, ast.FunctionDef)]
        setters = len([part for part in node.body if getattr(part, "decorator_list", None)
                       and isinstance(part.decorator_list[0], ast.Attribute)])
        if len(set(names)) + setters != len(names):
            self.say("L18", node, "a method twice")
        for part in node.body:
            if isinstance(part, ast.FunctionDef):
                self.see_double(node, part)

    def see_double(self, owner, node):
        returns = [part.value for part in ast.walk(node) if isinstance(part, ast.Return)]
        if node.name == "__init__" and returns:
            self.say("L28", node, "__init__ returns")
        if node.name == "__exit__":
            self.see_exit(node.body)
        if node.name in PARAMETERS:
            names = [part.arg for part in node.args.args]
            if names != PARAMETERS[node.name] or ast.unparse(node.args) != ", ".join(names) or node.decorator_list:
                self.say("L5", node, node.name)
        if node.name == "__getitem__":
            given = [part for part in owner.body if getattr(part, "name", None) == "__iter__"]
            if len(given) != 1 or not ast.unparse(given[0].body[-1]).startswith("raise TypeError("):
                self.say("L5", node, "no __iter__ that raises TypeError")
        if node.name == "__len__":
            for value in returns:
                if not isinstance(value, ast.Constant) and not ast.unparse(value).startswith("len("):
                    self.say("L28", node, "__len__")
        if node.name in ("__str__", "__repr__"):
            for value in returns:
                if not isinstance(value, ast.JoinedStr) and not re.match(r"(str|repr)\(|'.*'\.join\(|'[^']*'$",
                                                                         ast.unparse(value)):
                    self.say("L28", node, node.name)
        if node.name == "__eq__":
            start = ast.unparse([part for part in node.body if not isinstance(part, ast.Expr)][0])
            asked = f"isinstance(other, {owner.name})"
            if not start.startswith((f"return {asked} and ", f"if not {asked}:")):
                self.say("L28", node, "__eq__")

    def see_exit(self, body):
        """Plain assignments, also where the kind is asked whether it is None."""
        for part in body:
            if isinstance(part, ast.If):
                if ast.unparse(part.test) not in ("kind is None", "kind is not None"):
                    self.say("L6", part, "__exit__ asks")
                self.see_exit([*part.body, *part.orelse])
                continue
            plain = isinstance(part, ast.Pass) or isinstance(part, ast.Assign) and len(part.targets) == 1
            inner = list(ast.walk(part))
            read = {one.id for one in inner if isinstance(one, ast.Name)} & {"value", "trace"}
            if not plain or read or not all(isinstance(one, NAMED) for one in inner):
                self.say("L6", part, "__exit__")

    def see_call(self, node):
        if isinstance(node.func, ast.Attribute):
            name, on = node.func.attr, node.func.value
            if name not in METHODS and name not in self.own and not name.startswith("__"):
                self.say("L25", node, f".{name}(..)")
            if name == "join" and not isinstance(on, ast.Constant):
                self.say("L25", node, "join of no literal")
            if name in METHODS - self.own and node.keywords:
                self.say("L25", node, f"a keyword of .{name}(..)")
            return
        if not isinstance(node.func, ast.Name):
            return
        name = node.func.id
        if any(isinstance(value, ast.Starred) for value in node.args):
            if hasattr(builtins, name) and name not in ("max", "min", "zip") or name in LIBRARY["math"]:
                self.say("L7", node, f"a star in {name}(..)")
        if hasattr(builtins, name) or name in LIBRARY["math"]:
            for keyword in node.keywords:
                if keyword.arg not in KEYWORDS.get(name, ()):
                    self.say("L22", node, f"{keyword.arg} of {name}")
        if name in ("zip", "enumerate", "reversed", "range"):
            self.see_at_once(node, name)
        if name == "set" or name == "frozenset":
            self.say("L24", node, name)

    def see_at_once(self, node, name):
        over = self.parents[node]
        looped = isinstance(over, (ast.For, ast.comprehension)) and over.iter is node
        taken = isinstance(over, ast.Call) and getattr(over.func, "id", None) in AT_ONCE and over.args[0] is node
        asked = isinstance(over, ast.Compare) and name == "range"
        if not (looped or taken or asked):
            self.say("L23", node, f"{name} that is not iterated at once")

    def see_constant(self, node):
        value = node.value
        if isinstance(value, (float, complex, bytes)) or value is Ellipsis:
            self.say("L7", node, repr(value))
        if isinstance(value, int) and abs(value) >= 10 ** 900:
            self.say("L27", node, "a long number")
        if isinstance(value, str):
            over = self.parents[node]
            docstring = isinstance(over, ast.Expr)
            if "%" in value and not docstring or value.endswith(("._", ".__")):
                self.say("L27", node, value)
            if re.fullmatch(r"__.*__", value):
                self.say("L27", node, value)

    def see_expression(self, node):
        if isinstance(node, ast.BinOp) and isinstance(node.op, ast.Pow):
            if not isinstance(node.right, ast.Constant) or not 0 <= node.right.value <= 64:
                self.say("L27", node, "an exponent")
        if isinstance(node, ast.Compare):
            for op, side in zip(node.ops, node.comparators):
                if isinstance(op, (ast.Is, ast.IsNot)) and not isinstance(side, ast.Constant):
                    self.say("L20", node, "is")
        if isinstance(node, ast.Name) and isinstance(node.ctx, ast.Load):
            if hasattr(builtins, node.id) and node.id not in USABLE:
                self.say("L8", node, node.id)
            if node.id in self.classes and not self.class_stands_right(node):
                self.say("L18", node, f"class {node.id}")

    def class_stands_right(self, node):
        over = self.parents[node]
        if isinstance(over, ast.Call):
            return over.func is node or getattr(over.func, "id", None) == "isinstance" and over.args[1] is node
        return isinstance(over, (ast.ClassDef, ast.ExceptHandler, ast.Attribute, ast.Tuple))


def sources():
    """Each file of the package with its text."""
    folder = os.path.join(ROOT, PACKAGE)
    found = {}
    for name in sorted(os.listdir(folder)):
        if name != "__pycache__":
            with open(os.path.join(folder, name), encoding="utf-8", newline="") as file:
                found[name] = file.read()
    return found


class Language(unittest.TestCase):
    def setUp(self):
        self.sources = sources()
        self.trees = {name: ast.parse(source) for name, source in self.sources.items()}
        self.defined = {
            name: {getattr(node, "name", None) or node.targets[0].id for node in tree.body
                   if isinstance(node, (ast.FunctionDef, ast.ClassDef, ast.Assign))}
            for name, tree in self.trees.items()
        }

    def methods(self):
        nodes = [node for tree in self.trees.values() for node in ast.walk(tree) if isinstance(node, ast.ClassDef)]
        return {part.name for node in nodes for part in node.body if isinstance(part, ast.FunctionDef)}

    def test_rules(self):
        for name, source in self.sources.items():
            self.assertEqual(Sight(source, own_methods=self.methods()).all(), [], name)

    def test_files(self):
        self.assertIn("__init__.py", self.sources)
        for name in self.sources:
            stem = name.removesuffix(".py")
            self.assertNotEqual(stem, name)
            if stem == "__init__":
                continue
            self.assertTrue(re.fullmatch(r"[a-z][a-z0-9_]*", stem), name)
            barred = re.match(r"(law_|test|site$|conftest|sitecustomize|usercustomize)", stem)
            self.assertFalse(barred or hasattr(builtins, stem) or stem in WORDS | NEVER | set(LIBRARY), name)
        self.assertLessEqual(len(self.sources), 100)

    def test_imports_name_the_file_that_defines(self):
        for name, tree in self.trees.items():
            for node in [node for node in tree.body if isinstance(node, ast.ImportFrom)]:
                if node.module not in LIBRARY:
                    file = node.module.removeprefix(PACKAGE + ".") + ".py"
                    for alias in node.names:
                        self.assertIn(alias.name, self.defined[file], name)

    def test_imports_in_no_circle(self):
        needs = {
            name: {node.module.removeprefix(PACKAGE + ".") + ".py" for node in tree.body
                   if isinstance(node, ast.ImportFrom) and node.module not in LIBRARY}
            for name, tree in self.trees.items()
        }
        while needs:
            free = [name for name in needs if not needs[name] & set(needs)]
            self.assertTrue(free, needs)
            for name in free:
                del needs[name]

    def test_imports_are_used(self):
        for name, tree in self.trees.items():
            used = {node.id for node in ast.walk(tree) if isinstance(node, ast.Name)}
            for node in [node for node in tree.body if isinstance(node, ast.ImportFrom)]:
                self.assertEqual([alias.name for alias in node.names if alias.name not in used], [], name)

    def test_interface_is_defined_where_it_is_listed(self):
        for name, listed in INTERFACE.items():
            self.assertEqual(listed - self.defined[name], set(), name)
        for (name, owner), methods in CLASS_METHODS.items():
            body = [node for node in self.trees[name].body if getattr(node, "name", None) == owner][0].body
            self.assertEqual(methods - {part.name for part in body if isinstance(part, ast.FunctionDef)}, set(), owner)

    def test_tests_stand_outside(self):
        self.assertFalse([name for name in self.sources if name.startswith("test")])


BAD = {
    "L2": ["import math", "from math import floor", "from os import path", "from drawnmore.rows import *",
           "from .rows import Row", "from math import gcd as g", "x = 1\nfrom math import gcd",
           "def f():\n    from math import gcd"],
    "L3": ["print(1)", "x = f(1)", "if True:\n    x = 1", "for x in (1, 2):\n    y = x"],
    "L4": ["def f(x=g()):\n    return x", "@g\ndef f():\n    return 1"],
    "L5": ["class A:\n    def __hash__(self):\n        return 1",
           "class A:\n    def __getitem__(self, at):\n        return self.x[at]",
           "class A:\n    def __getitem__(self, at):\n        return self.x[at]\n\n    def __iter__(self):\n"
           "        return 1",
           "class A:\n    def __contains__(self, x, y=1):\n        return x == y",
           "class A:\n    def __setitem__(self, *many):\n        self.x = many"],
    "L6": ["def f():\n    global x", "async def f():\n    return 1", "def f(x):\n    x + 1",
           "class A:\n    def __exit__(self, kind, value, trace):\n        self.x = f()",
           "class A:\n    def __exit__(self, kind, value, trace):\n        self.x.pop()",
           "class A:\n    def __exit__(self, kind, value, trace):\n        if value is None:\n            self.x = 1",
           "class A:\n    def __exit__(self, kind, value, trace):\n        self.x = value",
           "class A:\n    def __exit__(self, kind, value, trace):\n        if kind is None:\n            self.x = f()"],
    "L7": ["x = 1.5", "def f(x):\n    return x / 2", "def f(x):\n    return any(y for y in x)", "x = b''",
           "def f(x):\n    return gcd(*x)\nfrom math import gcd"],
    "L8": ["def f(x):\n    return round(x)", "def f(x):\n    print(x)", "def f(x):\n    return open(x)",
           "def f():\n    return '{}'.format(1)"],
    "L10": ["def f():\n" + "    x = 1\n" * 40, "x = 1\n" * 400, "x = " + "1" * 120],
    "L12": ["__x = 1", "def f(_wallet):\n    return 1", "def f(_1):\n    return 1"],
    "L14": ["x = '\t'", "# \u00e9", "x = 1\r\n", "x = 1\ny = 2"],
    "L15": ["x = 1\nx = 2", "def f(sum):\n    return sum", "def f():\n    hash = 1",
            "class A:\n    pass\ndef f(A):\n    return 1",
            "from math import gcd\ndef f(gcd):\n    return 1", "def f():\n    class A:\n        pass"],
    "L17": ["def f(elements):\n    return 1", "x = 'namedtuple'", "def f(x):\n    return x.mro",
            "def f(os):\n    return 1"],
    "L18": ["class A:\n    pass\ndef f():\n    return [A]", "class A(dict):\n    pass",
            "class A:\n    def f(self):\n        return 1\n    def f(self):\n        return 2"],
    "L19": ["def f(x):\n    raise x", "def f(x):\n    raise ValueError", "def f():\n    try:\n        g()\n"
            "    except Exception:\n        pass", "def f():\n    try:\n        g()\n    except:\n        pass",
            "def f():\n    try:\n        g()\n    except (KeyError, TypeError):\n        pass"],
    "L20": ["def f(x, y):\n    return x is y"],
    "L21": ["def f(x: int):\n    return x", "def f() -> int:\n    return 1"],
    "L22": ["def f(x):\n    return int(x, base=2)", "def f(x):\n    return list(iterable=x)"],
    "L23": ["def f(x):\n    y = zip(x, x)", "def f(x):\n    return enumerate(x)"],
    "L24": ["def f(x):\n    return set(x)"],
    "L25": ["def f(x):\n    return x.encode()", "def f(x, y):\n    return x.join(y)",
            "def f(x):\n    return x.split(sep=',')"],
    "L27": ["def f(x):\n    return 2 ** x", "x = 10 ** 65", "x = '%'", "x = '__odd__'"],
    "L28": ["class A:\n    def __len__(self):\n        return self.n",
            "class A:\n    def __str__(self):\n        return self.x",
            "class A:\n    def __eq__(self, other):\n        return self.n == other.n",
            "class A:\n    def __init__(self):\n        return None"],
}


class Seen(unittest.TestCase):
    """The rules are really looked at."""

    def test_bad_ones_are_seen(self):
        for rule, many in BAD.items():
            for source in many:
                whole = source if rule == "L14" else textwrap.dedent(source) + "\n"
                self.assertIn(rule, [found[0] for found in Sight(whole).all()], source)

    def test_good_ones_are_passed(self):
        source = '"""Good."""\n\nfrom math import gcd\n\nMANY = 10 ** 30\n\n\ndef f(x, by=1):\n    """Docstring."""\n' \
                 "    return [gcd(y, by) for y in range(x) if y is not None]\n"
        self.assertEqual(Sight(source).all(), [])


if __name__ == "__main__":
    unittest.main()
