"""What a script can see of the rules of the language that the package keeps to.

check_package(folder) returns the list of what breaks a rule, each with its number and line.
"""

import ast
import builtins
import os
import tokenize

from aliases import changes_of_walked

LIBRARY = {
    "heapq": {"heappush", "heappop", "heapify", "heapreplace", "heappushpop"},
    "math": {"gcd", "lcm", "isqrt", "comb", "perm", "factorial"},
    "itertools": {"product", "combinations", "permutations", "chain", "accumulate", "pairwise", "islice",
    "zip_longest"},
    "collections": {"deque", "defaultdict"},
}
BUILTINS = set("""len range enumerate zip min max sum abs sorted reversed int str bool bytes list tuple dict set
frozenset isinstance ord repr any all divmod Exception ValueError TypeError KeyError IndexError LookupError
ZeroDivisionError ArithmeticError OverflowError RuntimeError NotImplementedError AttributeError StopIteration
NotImplemented type""".split())
METHODS = set("""append clear copy count endswith extend find get index insert isalnum isalpha isdigit islower isspace
isupper items join keys ljust lower lstrip partition pop remove replace reverse rfind rjust rpartition rsplit rstrip
setdefault split splitlines startswith strip update upper values zfill bit_length title capitalize swapcase casefold
center expandtabs removeprefix removesuffix rindex isascii isdecimal isnumeric istitle isidentifier isprintable
sort add discard translate __init__""".split())
BARRED_ATTRIBUTES = set("""items keys values pop update append clear extend insert remove reverse setdefault sort args
encode decode hex fromhex format format_map mro register elements open input law version_info with_traceback
add_note""".split())
BARRED_NAMES = set("""register mro elements open input law version_info with_traceback add_note attrgetter breakpoint
builtins compile copyright credits delattr dir eval exec exit gc globals help id importlib license locals
methodcaller os quit super vars sys""".split())
BARRED_WORDS = ["typing", "typing_extensions", "enum", "Enum", "IntEnum", "StrEnum", "Flag", "IntFlag", "Generic",
                "Protocol", "ABC", "ABCMeta", "namedtuple", "NamedTuple", "TypedDict", "TYPE_CHECKING",
                "abstractmethod"]
# What may be done with a list or dict of the module level besides an index, a loop, in and a comparison.
ASKING = set("len sorted list tuple dict set sum min max any all enumerate zip".split())
STATEMENTS = (ast.Assign, ast.AugAssign, ast.If, ast.While, ast.For, ast.Return, ast.Break, ast.Continue, ast.Pass,
              ast.Raise, ast.Delete, ast.Expr, ast.Try, ast.FunctionDef, ast.Assert, ast.ClassDef, ast.ImportFrom)
OWN_DOUBLES = {"__init__", "__len__", "__eq__", "__iter__"}


class Checker:
    """The findings about one file."""

    def __init__(self, path, package, methods, tables, classes):
        self.path = path
        self.package = package
        self.methods = methods
        self.all_tables = tables
        self.all_classes = classes
        self.found = []
        with open(path, encoding="utf-8") as handle:
            self.text = handle.read()
        self.tree = ast.parse(self.text)

    def note(self, rule, node, what):
        line = node if isinstance(node, int) else getattr(node, "lineno", 0)
        self.found.append("%s %s:%d %s" % (rule, os.path.basename(self.path), line, what))

    def run(self):
        self.check_lines()
        self.check_strings()
        self.check_module()
        imports = [node for node in self.tree.body if isinstance(node, ast.ImportFrom)]
        self.tables = tables_in(self.tree) | {alias.name for node in imports for alias in node.names
                                              if alias.name in self.all_tables.get(node.module.partition(".")[2], ())}
        self.above = {child: node for node in ast.walk(self.tree) for child in ast.iter_child_nodes(node)}
        for node in ast.walk(self.tree):
            self.check_node(node)
        return self.found

    def check_lines(self):
        lines = self.text.split("\n")
        if len(lines) - 1 > 399:
            self.note("L10", 0, "%d lines" % (len(lines) - 1))
        for number, line in enumerate(lines, 1):
            if len(line) > 120:
                self.note("L10", number, "long line")
            if any(not " " <= char <= "~" for char in line):
                self.note("L14", number, "a character that may not stand")
        for node in ast.walk(self.tree):
            if isinstance(node, ast.FunctionDef) and node.end_lineno - node.lineno + 1 > 40:
                self.note("L10", node, "long function " + node.name)

    def check_strings(self):
        docs = set()
        for node in ast.walk(self.tree):
            if isinstance(node, (ast.Module, ast.ClassDef, ast.FunctionDef)) and ast.get_docstring(node) is not None:
                docs.add(id(node.body[0].value))
        for node in ast.walk(self.tree):
            if isinstance(node, ast.Constant) and isinstance(node.value, str) and id(node) not in docs:
                if "%" in node.value:
                    self.note("L27", node, "the percent sign")
                if any(word in BARRED_WORDS for word in node.value.replace(".", " ").split()):
                    self.note("L17", node, "a barred word")
                if node.value.endswith(("._", ".__")) or node.value[:2] == "__":
                    self.note("L27", node, "a string that may not stand")
        with open(self.path, "rb") as handle:
            for token in tokenize.tokenize(handle.readline):
                if token.type == tokenize.STRING:
                    self.check_escapes(token)

    def check_escapes(self, token):
        text = token.string
        at = text.find("\\")
        while at >= 0:
            if text[at + 1] not in "nt\\\"'":
                self.note("L27", token.start[0], "an escape that may not stand")
            at = text.find("\\", at + 2)

    def check_module(self):
        bound = []
        for at, node in enumerate(self.tree.body):
            if isinstance(node, ast.ImportFrom):
                self.check_import(node)
                bound.extend(alias.asname or alias.name for alias in node.names)
            elif isinstance(node, (ast.FunctionDef, ast.ClassDef)):
                bound.append(node.name)
            elif isinstance(node, ast.Assign):
                if len(node.targets) != 1 or not isinstance(node.targets[0], ast.Name):
                    self.note("L3", node, "an assignment that is not plain")
                else:
                    bound.append(node.targets[0].id)
                self.check_plain(node.value)
            elif isinstance(node, ast.Import):
                self.note("L2", node, "an import of a module")
            elif not (at == 0 and isinstance(node, ast.Expr) and isinstance(node.value, ast.Constant)):
                self.note("L3", node, "a statement at module level")
        for name in bound:
            if bound.count(name) > 1:
                self.note("L15", 0, "bound twice: " + name)
        self.bound = set(bound)
        self.classes = {node.name for node in self.tree.body if isinstance(node, ast.ClassDef)}
        self.imported = {alias.name for node in self.tree.body if isinstance(node, ast.ImportFrom)
                         for alias in node.names}

    def check_plain(self, value):
        inner = list(value.values) + list(value.keys) if isinstance(value, ast.Dict) else getattr(value, "elts", [])
        for node in inner:
            if isinstance(node, (ast.List, ast.Dict)):
                self.note("L15", node, "a list or dict within another")
        for node in ast.walk(value):
            if isinstance(node, (ast.Call, ast.ListComp, ast.Set, ast.Lambda)):
                self.note("L3", node, "a value that is not plain")
            if isinstance(node, ast.Name) and node.id not in self.names_above(value.lineno):
                self.note("L3", node, "a name that is not defined above")

    def names_above(self, line):
        """The names of the functions and values that the file defines above a line."""
        rows = [node.targets[0].id for node in self.tree.body if isinstance(node, ast.Assign) and node.lineno < line]
        return rows + [node.name for node in self.tree.body if isinstance(node, ast.FunctionDef) and node.lineno < line]

    def check_import(self, node):
        if node.level or any(alias.asname or alias.name == "*" for alias in node.names):
            self.note("L2", node, "an import of a wrong form")
        elif node.module in LIBRARY:
            for alias in node.names:
                if alias.name not in LIBRARY[node.module]:
                    self.note("L2", node, "an import from the library: " + alias.name)
        else:
            top, _, rest = node.module.partition(".")
            if top != os.path.basename(os.path.dirname(self.path)) or rest not in self.package:
                self.note("L2", node, "an import from elsewhere: " + node.module)
                return
            for alias in node.names:
                if alias.name not in self.package[rest]:
                    self.note("L16", node, "not defined there: " + alias.name)
                if not self.uses_name(alias.name):
                    self.note("L2", node, "imported for nothing: " + alias.name)

    def uses_name(self, name):
        return any(isinstance(node, ast.Name) and node.id == name for node in ast.walk(self.tree))

    def check_node(self, node):
        if isinstance(node, ast.stmt) and not isinstance(node, STATEMENTS):
            self.note("L6", node, "a statement of a kind that is not used here")
        if isinstance(node, (ast.GeneratorExp, ast.Yield, ast.YieldFrom, ast.Await, ast.SetComp, ast.Lambda)):
            self.note("L7", node, "an expression of a kind that is not used here")
        if isinstance(node, ast.Constant) and isinstance(node.value, (float, complex)) or isinstance(node, ast.Div):
            self.note("L7", node, "a float")
        if isinstance(node, ast.Compare):
            self.check_compare(node)
        if isinstance(node, ast.Attribute):
            self.check_attribute(node)
        if isinstance(node, ast.Call):
            self.check_call(node)
        if isinstance(node, ast.FunctionDef):
            self.check_function(node)
        if isinstance(node, ast.ExceptHandler) and getattr(node.type, "id", "") not in self.all_classes:
            self.note("L19", node, "a handler of an error that is not an own one")
        if isinstance(node, ast.Name) and node.id in self.tables and isinstance(node.ctx, ast.Load):
            self.check_table(node)
        if isinstance(node, ast.BinOp) and isinstance(node.op, ast.Pow):
            if not isinstance(node.right, ast.Constant) or not 0 <= node.right.value <= 64:
                self.note("L27", node, "an exponent that is no literal")

    def check_table(self, node):
        """A list or dict of the module level is only read."""
        above = self.above[node]
        asked = isinstance(above, ast.Call) and getattr(above.func, "id", "") in ASKING
        method = isinstance(above, ast.Attribute) and above.attr in ("get", "items", "keys", "values", "index", "count")
        read = isinstance(above, ast.Subscript) and above.value is node and isinstance(above.ctx, ast.Load)
        looped = isinstance(above, (ast.For, ast.comprehension)) and above.iter is node
        compared = isinstance(above, ast.Compare)
        if not (asked or method or read or looped or compared or self.is_for_translate(node)):
            self.note("L15", node, "a table of the module level that is more than read: " + node.id)

    def check_compare(self, node):
        for operator, right in zip(node.ops, node.comparators):
            if isinstance(operator, (ast.Is, ast.IsNot)):
                constant = isinstance(right, ast.Constant) and right.value in (None, True, False)
                kind = isinstance(node.left, ast.Call) and getattr(node.left.func, "id", "") == "type"
                if not constant and not kind:
                    self.note("L20", node, "is beside a value")

    def check_attribute(self, node):
        if isinstance(node.ctx, ast.Store) and node.attr in BARRED_ATTRIBUTES:
            self.note("L26", node, "an attribute that may not be called so: " + node.attr)
        if node.attr.startswith("__") and node.attr not in OWN_DOUBLES:
            self.note("L8", node, "two underscores: " + node.attr)

    def check_call(self, node):
        if isinstance(node.func, ast.Attribute):
            name = node.func.attr
            if name not in METHODS and name not in self.methods:
                self.note("L25", node, "a method that may not be called: " + name)
            if name == "translate" and not self.is_literal_table(node.args):
                self.note("L25", node, "a translate without a literal table")
        elif not isinstance(node.func, ast.Name):
            self.note("L15", node, "a call of something that has no name")
        for keyword in node.keywords:
            if isinstance(node.func, ast.Name) and node.func.id in BUILTINS:
                self.note("L22", node, "a keyword of a builtin")

    def is_literal_table(self, values):
        """Whether what translate is passed is a literal table, or the name of one that nothing else reads."""
        if len(values) != 1:
            return False
        table = values[0]
        if isinstance(table, ast.Name):
            reads = [node for node in ast.walk(self.tree) if isinstance(node, ast.Name) and node.id == table.id
                     and isinstance(node.ctx, ast.Load)]
            rows = [node.value for node in self.tree.body if isinstance(node, ast.Assign)
                    and getattr(node.targets[0], "id", "") == table.id]
            if len(rows) != 1 or not all(self.is_for_translate(one) for one in reads):
                return False
            table = rows[0]
        return isinstance(table, ast.Dict) and len(table.keys) > 0

    def is_for_translate(self, node):
        """Whether a name stands as what translate is passed."""
        above = self.above[node]
        return isinstance(above, ast.Call) and getattr(above.func, "attr", "") == "translate" and node in above.args

    def check_function(self, node):
        for one in changes_of_walked(node):
            self.note("L23", one, "what a loop, extend, update, += or |= walks is changed by it")
        if any(getattr(one, "id", "") != "property" for one in node.decorator_list):
            self.note("L4", node, "a decorator")
        if node.decorator_list and len(node.args.args) != 1:
            self.note("L5", node, "a property with parameters")
        local = {one.arg for one in node.args.args}
        if node.args.vararg:
            local.add(node.args.vararg.arg)
        for one in ast.walk(node):
            if isinstance(one, ast.Name) and isinstance(one.ctx, (ast.Store, ast.Del)):
                local.add(one.id)
            if isinstance(one, ast.ExceptHandler) and one.name:
                local.add(one.name)
            if isinstance(one, ast.FunctionDef) and one is not node:
                self.note("L4", one, "a nested function; none is used here")
        for name in sorted(local):
            if hasattr(builtins, name) or name in BARRED_NAMES:
                self.note("L15", node, "the name of a builtin: " + name)
            if name in self.classes or name in self.imported:
                self.note("L15", node, "the name of a class or an import: " + name)
        for one in ast.walk(node):
            if isinstance(one, ast.Name) and isinstance(one.ctx, ast.Load):
                if one.id not in local and one.id not in self.bound and one.id not in BUILTINS:
                    if not self.may_stand(one, node):
                        self.note("L8", one, "a name that nothing binds: " + one.id)
        if node.args.kwonlyargs or node.args.kwarg or node.args.posonlyargs:
            self.note("L4", node, "parameters of a kind that is not used here")
        if any(not isinstance(one, ast.Constant) for one in node.args.defaults):
            self.note("L4", node, "a default value that is not plain")
        if node.name == "__init__" and any(isinstance(one, ast.Return) for one in ast.walk(node)):
            self.note("L28", node, "an __init__ that returns")


    def may_stand(self, name, function):
        """Whether iter, super or property stands where it may."""
        above = self.above[name]
        if name.id == "property":
            return name in function.decorator_list
        if name.id == "iter":
            only = ast.unparse(function.body[-1])
            if function.name == "__iter__" and len(function.body) == 1 and only.startswith("return iter(self."):
                return True
            return self.is_kept_iterator(self.above[name], function)
        if name.id != "super" or not isinstance(above, ast.Call) or above.args:
            return False
        read = self.above[above]
        return isinstance(read, ast.Attribute) and isinstance(self.above[read], ast.Call) and read.attr[:2] != "__"


    def is_kept_iterator(self, call, function):
        """Whether a call of iter gives a local name once, which is only gone through then."""
        row = self.above[call]
        if not isinstance(call, ast.Call) or len(call.args) != 1 or not isinstance(row, ast.Assign):
            return False
        if not isinstance(call.args[0], (ast.Name, ast.Attribute, ast.Subscript)) or row.value is not call:
            return False
        kept = getattr(row.targets[0], "id", "") if len(row.targets) == 1 else ""
        names = [node for node in ast.walk(function) if isinstance(node, ast.Name) and node.id == kept]
        reads = [node for node in names if isinstance(node.ctx, ast.Load)]
        return len(names) == len(reads) + 1 and all(self.is_gone_through(node) for node in reads)

    def is_gone_through(self, node):
        """Whether a kept iterator stands where it is gone through."""
        above = self.above[node]
        if isinstance(above, (ast.For, ast.comprehension)):
            return above.iter is node
        return isinstance(above, ast.Call) and getattr(above.func, "id", "") in ("list", "tuple", "sorted")


def names_bound(tree):
    names = set()
    for node in tree.body:
        if isinstance(node, (ast.FunctionDef, ast.ClassDef)):
            names.add(node.name)
        elif isinstance(node, ast.Assign):
            names.update(target.id for target in node.targets if isinstance(target, ast.Name))
    return names


def tables_in(tree):
    """The names of the lists and dicts at module level."""
    rows = [node for node in tree.body if isinstance(node, ast.Assign) and isinstance(node.value, (ast.Dict, ast.List))]
    return {target.id for node in rows for target in node.targets if isinstance(target, ast.Name)}


def rings(graph):
    """The files that import from each other."""
    found = []
    for start in graph:
        seen = set()
        waiting = list(graph[start])
        while waiting:
            name = waiting.pop()
            if name not in seen:
                seen.add(name)
                waiting.extend(graph.get(name, []))
        if start in seen:
            found.append("L16 %s imports itself by a ring" % start)
    return found


def check_package(folder):
    """The list of all that breaks a rule in a package."""
    found = []
    package = {}
    methods = set()
    graph = {}
    attributes = {}
    tables = {}
    classes = set()
    for name in sorted(os.listdir(folder)):
        if name == "__pycache__":
            continue
        if not name.endswith(".py") or name != name.lower():
            found.append("L1 %s may not stand in the package" % name)
            continue
        with open(os.path.join(folder, name), encoding="utf-8") as handle:
            tree = ast.parse(handle.read())
        package[name[:-3]] = names_bound(tree)
        tables[name[:-3]] = tables_in(tree)
        classes |= {node.name for node in tree.body if isinstance(node, ast.ClassDef)}
        graph[name[:-3]] = [node.module.partition(".")[2] for node in tree.body
                            if isinstance(node, ast.ImportFrom) and node.module not in LIBRARY]
        for node in ast.walk(tree):
            if isinstance(node, ast.ClassDef):
                own = {one.name for one in node.body if isinstance(one, ast.FunctionDef)} - OWN_DOUBLES
                methods |= own
                for one in ast.walk(node):
                    if isinstance(one, ast.Attribute) and isinstance(one.ctx, ast.Store):
                        attributes[one.attr] = node.name
    for name in sorted(methods & set(attributes)):
        found.append("L18 %s is a method and an attribute" % name)
    found.extend(rings(graph))
    for name in sorted(package):
        found.extend(Checker(os.path.join(folder, name + ".py"), package, methods, tables,
                             classes).run())
    return found


if __name__ == "__main__":
    HERE = os.path.dirname(os.path.abspath(__file__))
    for row in check_package(os.path.join(os.path.dirname(HERE), "patterndeeds")):
        print(row)
