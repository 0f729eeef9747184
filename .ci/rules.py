"""Looks through the package for what ../shared/LANGUAGE.md bars, as far as a short script can see it."""
import ast
import builtins
import pathlib
import sys

ROOT = pathlib.Path(__file__).resolve().parent.parent
PACKAGE = ROOT / "sevenpins"
LIBRARY = {
    "heapq": {"heappush", "heappop", "heapify", "heapreplace", "heappushpop"},
    "math": {"gcd", "lcm", "isqrt", "comb", "perm", "factorial"},
    "itertools": {
        "product", "combinations", "permutations", "chain", "accumulate", "pairwise", "islice", "zip_longest",
    },
    "collections": {"defaultdict"},
    "__future__": {"annotations"},
}
BUILTINS = set(
    "len range enumerate zip min max sum abs sorted reversed int str bool bytes list tuple dict set frozenset "
    "isinstance ord repr any all divmod pow map iter next getattr hasattr setattr super property staticmethod "
    "classmethod object float Exception ValueError TypeError KeyError IndexError LookupError ZeroDivisionError "
    "ArithmeticError OverflowError RuntimeError NotImplementedError AttributeError StopIteration NotImplemented".split()
)
METHODS = set(
    "append clear copy count endswith extend find get index insert isalnum isalpha isdigit islower isspace isupper "
    "items join keys ljust lower lstrip partition pop remove replace reverse rfind rjust rpartition rsplit rstrip "
    "setdefault split splitlines startswith strip update upper values zfill bit_length title capitalize swapcase "
    "casefold center expandtabs removeprefix removesuffix rindex isascii isdecimal isnumeric istitle isidentifier "
    "isprintable translate add discard sort format encode decode hex __init__ from_iterable".split()
)
NOT_NAMES = set(
    "register mro elements open input law version_info with_traceback add_note attrgetter breakpoint builtins compile "
    "copyright credits delattr dir eval exec exit gc globals help id importlib license locals methodcaller os quit "
    "vars type typing enum Enum Flag Generic Protocol ABC namedtuple NamedTuple".split()
)
BARRED = (
    ast.Global, ast.AsyncFunctionDef, ast.AsyncFor, ast.AsyncWith, ast.Await, ast.Div, ast.MatMult, ast.TryStar,
    ast.Import,
)


def faults_of_text(text):
    rows = text.split("\n")
    if len(rows) > 400 or (len(rows) == 400 and rows[-1]):
        yield 1, "L10: more than 399 lines"
    for at, row in enumerate(rows, 1):
        if len(row) > 120:
            yield at, "L10: a line of more than 120 characters"
        if any(not " " <= sign <= "~" for sign in row):
            yield at, "L14: a character that is not let"
        if "_wall" in row or "_WallAttr" in row:
            yield at, "L12: a word that stands nowhere"


def own_names(package_trees):
    """Names of the package's functions, methods and attributes."""
    names = set()
    for tree in package_trees:
        for node in ast.walk(tree):
            if isinstance(node, (ast.FunctionDef, ast.ClassDef)):
                names.add(node.name)
            if isinstance(node, ast.Attribute) and isinstance(node.ctx, ast.Store):
                names.add(node.attr)
    return names


def faults_of_import(node):
    if node.level or any(alias.name == "*" for alias in node.names):
        yield node.lineno, "L2: a relative or star import"
    elif node.module in LIBRARY:
        for alias in node.names:
            if alias.name not in LIBRARY[node.module] or alias.asname:
                yield node.lineno, "L2: not among the library's names"
    elif not (node.module or "").startswith("sevenpins"):
        yield node.lineno, "L2: an import from outside"


def faults_of_function(node):
    if node.end_lineno - node.lineno + 1 > 40:
        yield node.lineno, "L10: a function of more than 40 lines"
    for decorator in node.decorator_list:
        if not isinstance(decorator, (ast.Name, ast.Attribute)):
            yield node.lineno, "L4: a decorator"


def faults_of_node(node, own):
    if isinstance(node, BARRED):
        yield getattr(node, "lineno", 0), f"L2, L6, L7: {node.__class__.__name__}"
    if isinstance(node, ast.ImportFrom):
        yield from faults_of_import(node)
    if isinstance(node, ast.FunctionDef):
        yield from faults_of_function(node)
    if isinstance(node, ast.Call):
        for part in node.args + [keyword.value for keyword in node.keywords if keyword.arg is None]:
            told = part.value if isinstance(part, ast.Starred) else part
            if isinstance(part, ast.Starred) and not isinstance(told, (ast.Name, ast.Attribute, ast.List, ast.Tuple)):
                yield node.lineno, "L7: what stands behind a star"
    if isinstance(node, ast.Constant) and isinstance(node.value, (float, complex)):
        yield node.lineno, "L7: a float"
    if isinstance(node, ast.Constant) and isinstance(node.value, str) and "%" in node.value:
        yield node.lineno, "L27: a percent sign in a string"
    if isinstance(node, ast.Attribute) and node.attr not in METHODS and node.attr not in own:
        yield node.lineno, f"L25: the attribute {node.attr}"
    if isinstance(node, ast.Name):
        if hasattr(builtins, node.id) and (node.id not in BUILTINS or not isinstance(node.ctx, ast.Load)):
            yield node.lineno, f"L8, L15: the name {node.id}"
        if node.id in NOT_NAMES:
            yield node.lineno, f"L17: the name {node.id}"
    if isinstance(node, ast.arg) and (hasattr(builtins, node.arg) or node.arg in NOT_NAMES):
        yield node.lineno, f"L15, L17: the parameter {node.arg}"


def faults_of_scopes(tree):
    """A local name that is an import or a class of its file (L15)."""
    bound = {alias.asname or alias.name for node in tree.body if isinstance(node, ast.ImportFrom) for alias in node.names}
    bound |= {node.name for node in tree.body if isinstance(node, (ast.ClassDef, ast.FunctionDef))}
    for function in ast.walk(tree):
        if not isinstance(function, ast.FunctionDef):
            continue
        for node in ast.walk(function):
            name = None
            if isinstance(node, ast.Name) and isinstance(node.ctx, ast.Store):
                name = node.id
            if isinstance(node, ast.arg):
                name = node.arg
            if name in bound:
                yield node.lineno, f"L15: {name} is bound at module level, too"


def main():
    files = sorted(PACKAGE.rglob("*.py"))
    trees = [ast.parse(path.read_text(encoding="utf-8")) for path in files]
    own = own_names(trees)
    faults = 0
    for path, tree in zip(files, trees):
        found = list(faults_of_text(path.read_text(encoding="utf-8"))) + list(faults_of_scopes(tree))
        for node in ast.walk(tree):
            found.extend(faults_of_node(node, own))
        for line, words in sorted(found):
            print(f"{path.relative_to(ROOT)}:{line}: {words}")
        faults += len(found)
    for path in PACKAGE.rglob("*"):
        if path.is_file() and path.suffix != ".py" and "__pycache__" not in path.parts:
            print(f"{path.relative_to(ROOT)}: L1: no file of Python")
            faults += 1
    sys.exit(1 if faults else 0)


main()
