"""Complaints about the package's files, by the rules of LANGUAGE.md that a reader of trees can see."""

import ast
import builtins
import io
import pathlib
import re
import tokenize

PACKAGE = pathlib.Path(__file__).resolve().parent.parent / "wirewords"

LIBRARY = {
    "heapq": {"heappush", "heappop", "heapify", "heapreplace", "heappushpop"},
    "math": {"gcd", "lcm", "isqrt", "comb", "perm", "factorial"},
    "itertools": {"product", "combinations", "permutations"},
}
BUILTINS = set(
    "len range enumerate zip min max sum abs sorted reversed int str bool bytes list tuple dict set isinstance ord repr"
    " any all divmod Exception ValueError TypeError KeyError IndexError LookupError ZeroDivisionError ArithmeticError"
    " OverflowError RuntimeError NotImplementedError AttributeError StopIteration NotImplemented".split()
)
METHODS = set(
    "append clear copy count endswith extend find get index insert isalnum isalpha isdigit islower isspace isupper"
    " items join keys ljust lower lstrip partition pop remove replace reverse rfind rjust rpartition rsplit rstrip"
    " setdefault split splitlines startswith strip update upper values zfill bit_length add discard".split()
)
MUTATORS = set("append clear extend insert pop remove reverse setdefault update add discard sort".split())
DUNDERS = set("init eq repr str len iter lt le gt ge ne and or xor invert contains getitem setitem add sub mul".split())
NEVER = {"register", "mro", "elements", "open", "input", "law", "version_info", "with_traceback", "add_note"}
NOT_NAMES = set(
    "attrgetter breakpoint builtins compile copyright credits delattr dir eval exec exit gc getattr globals hasattr"
    " help id importlib license locals methodcaller os quit setattr super type vars sys".split()
)
BARRED = set(
    "type typing typing_extensions enum Enum IntEnum StrEnum Flag IntFlag Generic Protocol ABC ABCMeta namedtuple"
    " NamedTuple TypedDict TYPE_CHECKING abstractmethod".split()
)
ONCE = {"zip", "enumerate", "reversed", "items", "keys", "values", "combinations", "permutations", "product"}
EATERS = {"list", "tuple", "dict", "sorted", "sum", "any", "all", "enumerate", "zip", "min", "max", "join"}


def parents_of(tree):
    above = {}
    for node in ast.walk(tree):
        for child in ast.iter_child_nodes(node):
            above[child] = node
    return above


def called(node):
    """The bare or last name of what a call calls."""
    if isinstance(node, ast.Call):
        if isinstance(node.func, ast.Name):
            return node.func.id
        if isinstance(node.func, ast.Attribute):
            return node.func.attr
    return None


class Package:
    def __init__(self, folder=PACKAGE):
        self.texts = {path.stem: path.read_text() for path in sorted(folder.glob("*.py"))}
        self.trees = {name: ast.parse(text) for name, text in self.texts.items()}
        self.bound = {name: self.module_names(tree) for name, tree in self.trees.items()}
        self.methods = {
            each.name
            for tree in self.trees.values()
            for node in tree.body
            if isinstance(node, ast.ClassDef)
            for each in node.body
            if isinstance(each, ast.FunctionDef)
        }
        self.found = []

    def say(self, rule, name, node, text):
        self.found.append(f"{name}.py:{getattr(node, 'lineno', 0)}: {rule}: {text}")

    @staticmethod
    def module_names(tree):
        names = {}
        for node in tree.body:
            if isinstance(node, (ast.FunctionDef, ast.ClassDef)):
                names.setdefault(node.name, []).append(node)
            elif isinstance(node, ast.Assign):
                for target in node.targets:
                    names.setdefault(target.id, []).append(node)
            elif isinstance(node, ast.ImportFrom):
                for alias in node.names:
                    names.setdefault(alias.asname or alias.name, []).append(node)
        return names

    def complaints(self):
        for name, tree in self.trees.items():
            self.check_text(name)
            self.check_module(name, tree)
            self.check_nodes(name, tree)
            self.check_names(name, tree)
            self.check_words(name)
        self.check_circles()
        self.check_pure()
        return self.found

    def check_text(self, name):
        text = self.texts[name]
        rows = text.split("\n")
        if len(text.splitlines()) > 399:
            self.say("L10", name, None, "more than 399 lines")
        for at, row in enumerate(rows):
            if len(row) > 120 or "\t" in row:
                self.say("L10", name, None, f"line {at + 1} is long or has a tab")
        if any(sign != "\n" and not " " <= sign <= "~" for sign in text):
            self.say("L14", name, None, "a character that is not let")
        if re.search(r"_wall\b|_WallAttr", text):
            self.say("L12", name, None, "a barred word")

    def check_module(self, name, tree):
        body = list(tree.body)
        if body and isinstance(body[0], ast.Expr) and isinstance(body[0].value, ast.Constant):
            body = body[1:]
        behind = False
        for node in body:
            if isinstance(node, ast.ImportFrom):
                if behind:
                    self.say("L2", name, node, "an import behind something else")
                self.check_import(name, node)
                continue
            behind = True
            if isinstance(node, ast.Assign):
                plain = (ast.Constant, ast.List, ast.Tuple, ast.Dict, ast.Load, ast.UnaryOp, ast.USub)
                if len(node.targets) != 1 or not all(isinstance(part, plain) for part in ast.walk(node.value)):
                    self.say("L3", name, node, "no plain value")
                for part in ast.iter_child_nodes(node.value):
                    if any(isinstance(each, (ast.List, ast.Dict)) for each in ast.walk(part)):
                        self.say("L15", name, node, "a list or dict in another one")
            elif not isinstance(node, (ast.FunctionDef, ast.ClassDef)):
                self.say("L3", name, node, "a statement at module level")
        for each, nodes in self.bound[name].items():
            if len(nodes) > 1:
                self.say("L15", name, nodes[1], f"{each} is bound twice")

    def check_import(self, name, node):
        names = [alias.name for alias in node.names]
        if node.level or any(alias.asname and alias.asname == alias.name for alias in node.names):
            self.say("L2", name, node, "a relative import")
        elif node.module in LIBRARY:
            if not set(names) <= LIBRARY[node.module]:
                self.say("L2", name, node, "no such name of the library")
        elif not (node.module or "").startswith("wirewords."):
            self.say("L2", name, node, "an import from outside")
        else:
            target = self.bound.get(node.module.split(".")[1], {})
            for each in names:
                if each not in target or isinstance(target[each][0], ast.ImportFrom):
                    self.say("L16", name, node, f"{each} is not defined there")
        used = {part.id for part in ast.walk(self.trees[name]) if isinstance(part, ast.Name)}
        for each in names:
            if each not in used:
                self.say("L2", name, node, f"{each} is not used")

    def check_circles(self):
        ahead = {
            name: [node.module.split(".")[1] for node in tree.body
                   if isinstance(node, ast.ImportFrom) and node.module.startswith("wirewords.")]
            for name, tree in self.trees.items()
        }
        placed = set()
        while True:
            ready = [name for name in ahead if name not in placed and set(ahead[name]) <= placed]
            if not ready:
                break
            placed.update(ready)
        for name in set(ahead) - placed:
            self.say("L16", name, None, "imports in a circle")

    def check_nodes(self, name, tree):
        above = parents_of(tree)
        banned = (ast.GeneratorExp, ast.Yield, ast.YieldFrom, ast.Global, ast.AsyncFunctionDef, ast.Await, ast.Import,
                  ast.With, ast.AnnAssign, ast.Div, ast.Match, ast.NamedExpr)
        for node in ast.walk(tree):
            if isinstance(node, banned):
                self.say("L6", name, node, type(node).__name__)
            if isinstance(node, ast.FunctionDef):
                self.check_function(name, node, above)
            if isinstance(node, ast.Constant):
                self.check_constant(name, node)
            if isinstance(node, ast.Compare):
                for sign, right in zip(node.ops, node.comparators):
                    if isinstance(sign, (ast.Is, ast.IsNot)) and not (
                        isinstance(right, ast.Constant) and right.value in (None, True, False)
                    ):
                        self.say("L20", name, node, "is")
            if isinstance(node, (ast.Set, ast.SetComp)) or called(node) == "set":
                over = above[node]
                if not (isinstance(over, (ast.Compare, ast.Assign)) or called(over) in ("sorted", "len")):
                    self.say("L24", name, node, "a set")
            if isinstance(node, ast.BinOp) and isinstance(node.op, ast.Pow) and not isinstance(node.right, ast.Constant):
                self.say("L27", name, node, "an exponent")
            if isinstance(node, ast.Raise) and node.exc is not None and not (
                isinstance(node.exc, ast.Call) and isinstance(node.exc.func, ast.Name)
            ):
                self.say("L19", name, node, "raise")
            if isinstance(node, ast.ExceptHandler):
                kinds = node.type.elts if isinstance(node.type, ast.Tuple) else [node.type]
                for kind in kinds:
                    caught = kind.id if isinstance(kind, ast.Name) else ""
                    known = {"KeyError", *self.bound["errors"], *self.bound["refusals"]}
                    if caught not in known:
                        self.say("L19", name, node, "a handler")
            if isinstance(node, ast.Lambda):
                for each in node.args.defaults:
                    self.say("L4", name, each, "a default of a lambda")
            if isinstance(node, ast.Try):
                self.check_finally(name, node)
            if isinstance(node, ast.Call):
                self.check_call(name, node, above)
            if isinstance(node, ast.For):
                self.check_loop(name, node)

    def check_finally(self, name, node):
        for each in node.finalbody:
            simple = isinstance(each, ast.Assign) and isinstance(each.value, (ast.Name, ast.Attribute))
            if not simple or not isinstance(each.targets[0], (ast.Name, ast.Attribute)):
                self.say("L6", name, each, "what a finally may not have")

    def check_function(self, name, node, above):
        if node.end_lineno - node.lineno + 1 > 40:
            self.say("L10", name, node, f"{node.name} is long")
        if node.returns or any(part.annotation for part in node.args.args):
            self.say("L21", name, node, "an annotation")
        for each in node.decorator_list:
            if not isinstance(each, ast.Name) or each.id not in ("property", "staticmethod"):
                self.say("L4", name, node, "a decorator")
        for each in node.args.defaults:
            if not isinstance(each, ast.Constant) and not (isinstance(each, ast.Tuple) and not each.elts):
                self.say("L4", name, node, "a default")
        if node.name.startswith("__") and node.name.strip("_") not in DUNDERS:
            self.say("L5", name, node, node.name)
        if node.name in ("__len__", "__repr__", "__eq__") and not isinstance(node.body[-1], ast.Return):
            self.say("L28", name, node, node.name)
        if node.name == "__len__" and called(node.body[-1].value) != "len":
            self.say("L28", name, node, node.name)

    def check_constant(self, name, node):
        if isinstance(node.value, (float, complex)):
            self.say("L7", name, node, "a float")
        if isinstance(node.value, str) and ("%" in node.value or node.value.endswith(("._", ".__"))):
            self.say("L27", name, node, "a string")

    def check_call(self, name, node, above):
        if isinstance(node.func, ast.Attribute):
            attr = node.func.attr
            if attr not in METHODS and attr not in self.methods and not attr.startswith("__"):
                self.say("L25", name, node, attr)
            if node.keywords and attr in METHODS:
                self.say("L25", name, node, "a keyword")
        elif not isinstance(node.func, ast.Name):
            self.say("L7", name, node, "a call of no name")
        own = isinstance(node.func, ast.Name) and node.func.id in self.bound[name] and node.func.id not in ONCE
        if called(node) in ONCE and not own:
            if isinstance(node.func, ast.Attribute) and (node.args or node.func.attr not in ONCE):
                return
            over = above[node]
            once = isinstance(over, (ast.For, ast.comprehension)) and over.iter is node
            if not once and called(over) not in EATERS:
                self.say("L23", name, node, called(node))
        if any(
            isinstance(part, ast.Starred) and not isinstance(part.value, (ast.Name, ast.Attribute))
            for part in node.args
        ):
            self.say("L7", name, node, "a star")
        if called(node) == "range" and isinstance(node.func, ast.Name):
            over = above[node]
            if not isinstance(over, (ast.For, ast.comprehension, ast.Assign, ast.Compare)):
                if called(over) not in EATERS | LIBRARY["itertools"] | {"len", "reversed"}:
                    self.say("L23", name, node, "a range that is passed on")
        if called(node) in ("any", "all", "sum") and isinstance(node.func, ast.Name):
            if isinstance(node.args[0], ast.GeneratorExp):
                self.say("L7", name, node, "a generator expression")

    def check_loop(self, name, node):
        whole = ast.unparse(node.iter)
        for part in node.body:
            for each in ast.walk(part):
                if isinstance(each, ast.Call) and isinstance(each.func, ast.Attribute):
                    if each.func.attr in MUTATORS and ast.unparse(each.func.value) == whole:
                        self.say("L23", name, each, "changes what the loop goes over")
                if isinstance(each, ast.Subscript) and isinstance(each.ctx, ast.Store):
                    if ast.unparse(each.value) == whole:
                        self.say("L23", name, each, "changes what the loop goes over")

    def check_names(self, name, tree):
        words = set(dir(builtins)) - {"_"}
        taken = {each for each, nodes in self.bound[name].items() if isinstance(nodes[0], (ast.ImportFrom, ast.ClassDef))}
        tables = self.tables_seen(name)
        above = parents_of(tree)
        for node in ast.walk(tree):
            bound = self.names_bound(node)
            for each in bound:
                if each in words or each in NEVER or each in NOT_NAMES:
                    if not (isinstance(node, ast.FunctionDef) and isinstance(above[node], ast.ClassDef)):
                        self.say("L15", name, node, each)
                if each in taken and not isinstance(above.get(node), ast.Module):
                    self.say("L15", name, node, f"{each} is a class or an import")
                if each.startswith("__") and not isinstance(node, ast.FunctionDef):
                    self.say("L8", name, node, each)
            if isinstance(node, ast.Attribute) and (node.attr in NEVER or node.attr in ("sort", "format")):
                self.say("L17", name, node, node.attr)
            if isinstance(node, ast.Name) and isinstance(node.ctx, ast.Load):
                if node.id == "_":
                    self.say("L12", name, node, "_ is read")
                if node.id in words and node.id not in BUILTINS and node.id not in ("property", "staticmethod"):
                    self.say("L8", name, node, node.id)
                if node.id in tables:
                    over = above[node]
                    fine = isinstance(over, (ast.Subscript, ast.Compare, ast.For, ast.comprehension, ast.Attribute))
                    if not fine and called(over) not in ("len", "list", "dict", "sorted"):
                        self.say("L15", name, node, f"{node.id} is passed on")

    def tables_seen(self, name):
        seen = set()
        for each, nodes in self.bound[name].items():
            node = nodes[0]
            if isinstance(node, ast.ImportFrom) and node.module.startswith("wirewords."):
                node = self.bound[node.module.split(".")[1]].get(each, [None])[0]
            if isinstance(node, ast.Assign) and isinstance(node.value, (ast.List, ast.Dict)):
                seen.add(each)
        return seen

    @staticmethod
    def names_bound(node):
        if isinstance(node, (ast.FunctionDef, ast.ClassDef)):
            return [node.name]
        if isinstance(node, ast.arg):
            return [node.arg]
        if isinstance(node, ast.Name) and isinstance(node.ctx, ast.Store):
            return [node.id]
        if isinstance(node, ast.ExceptHandler) and node.name:
            return [node.name]
        return []

    def check_words(self, name):
        docs = set()
        for node in ast.walk(self.trees[name]):
            if isinstance(node, (ast.Module, ast.ClassDef, ast.FunctionDef)) and ast.get_docstring(node) is not None:
                docs.add(node.body[0].lineno)
        for token in tokenize.generate_tokens(io.StringIO(self.texts[name]).readline):
            if token.type == tokenize.COMMENT or (token.type == tokenize.STRING and token.start[0] in docs):
                continue
            for word in re.findall(r"\w+", token.string):
                if word in BARRED or re.search("dataclass|overload|contextmanager", word):
                    self.say("L17", name, None, f"{word} in line {token.start[0]}")
            if token.type == tokenize.STRING and re.search(r"\\[^nt\\'\"]", token.string):
                self.say("L27", name, None, f"an escape in line {token.start[0]}")

    def check_pure(self):
        """Operators, properties and the like change nothing that they did not create (L5)."""
        methods = {}
        todo = []
        for name, tree in self.trees.items():
            for owner in tree.body:
                for node in owner.body if isinstance(owner, ast.ClassDef) else []:
                    if isinstance(node, ast.FunctionDef):
                        methods.setdefault(node.name, []).append((name, node))
                        operator = node.name.startswith("__") and node.name not in ("__init__", "__setitem__")
                        if operator or node.decorator_list and node.decorator_list[0].id == "property":
                            todo.append((name, node))
        met = set()
        while todo:
            name, node = todo.pop()
            if (name, node) in met:
                continue
            met.add((name, node))
            self.check_unchanging(name, node)
            for part in ast.walk(node):
                if isinstance(part, ast.Call) and isinstance(part.func, ast.Name):
                    todo.extend(self.functions_called(name, part.func.id))
                if isinstance(part, ast.Call) and isinstance(part.func, ast.Attribute):
                    todo.extend(methods.get(part.func.attr, []))

    def functions_called(self, name, bare):
        """The function of a file, or the __init__ of a class, that is called by a bare name, with its file."""
        node = self.bound[name].get(bare, [None])[0]
        if isinstance(node, ast.ImportFrom) and node.module.startswith("wirewords."):
            aliases = {alias.asname or alias.name: alias.name for alias in node.names}
            return self.functions_called(node.module.split(".")[1], aliases[bare])
        if isinstance(node, ast.FunctionDef):
            return [(name, node)]
        body = node.body if isinstance(node, ast.ClassDef) else []
        return [(name, each) for each in body if isinstance(each, ast.FunctionDef) and each.name == "__init__"]

    def check_unchanging(self, name, node):
        fresh = self.fresh_names(node)
        for part in ast.walk(node):
            if isinstance(part, ast.Call) and isinstance(part.func, ast.Attribute) and part.func.attr in MUTATORS:
                if not (isinstance(part.func.value, ast.Name) and part.func.value.id in fresh):
                    self.say("L5", name, part, f"{ast.unparse(part)} in {node.name}")
            if isinstance(part, ast.Subscript) and isinstance(part.ctx, (ast.Store, ast.Del)):
                if not (isinstance(part.value, ast.Name) and part.value.id in fresh):
                    self.say("L5", name, part, f"{ast.unparse(part)} in {node.name}")
            if isinstance(part, ast.Attribute) and isinstance(part.ctx, ast.Store) and node.name != "__init__":
                self.say("L5", name, part, f"{ast.unparse(part)} in {node.name}")
            if isinstance(part, ast.AugAssign) and not isinstance(part.value, ast.Constant):
                self.say("L5", name, part, f"{ast.unparse(part)} in {node.name}")

    @staticmethod
    def fresh_names(node):
        kinds = {}
        for part in ast.walk(node):
            if isinstance(part, ast.Assign):
                for target in part.targets:
                    if isinstance(target, ast.Name):
                        new = isinstance(part.value, (ast.List, ast.Dict, ast.ListComp, ast.DictComp, ast.Set))
                        new = new or called(part.value) in ("list", "dict", "set", "sorted", "copy")
                        new = new or isinstance(part.value, ast.BinOp) and isinstance(part.value.left, ast.ListComp)
                        kinds.setdefault(target.id, []).append(new)
            for each in Package.names_bound(part):
                if isinstance(part, ast.arg):
                    kinds.setdefault(each, []).append(False)
        return {each for each, news in kinds.items() if all(news)}
