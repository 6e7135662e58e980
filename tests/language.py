"""Checks of the package's files against a part of the language rules, more strictly than they ask.

The rules let more through than this does (classes with methods, sets, generators, handlers ..), each
under conditions of its own. What the package needs of that is let in here when it needs it, with its
conditions. Some rules are left to the reader: how many arguments a call passes, and what a function
does to what it is passed. Each fault is told as a line of text that begins with the rule.
"""

import ast
import builtins
import pathlib
import re
import warnings

PACKAGE = "stealyard"
BUILTINS = set(
    "len range enumerate zip min max sum abs sorted reversed int str list tuple dict any all".split()
)
METHODS = set("append clear copy count extend get index insert items keys pop remove reverse values".split())
CHANGING = set("append clear extend insert pop remove reverse".split())
AT_ONCE = {"enumerate", "zip", "range", "reversed", "items", "keys", "values"}
TAKERS = {"list", "tuple", "dict", "sorted", "sum", "any", "all", "enumerate", "zip", "min", "max"}
BARRED = set(
    "register mro elements open input law version_info with_traceback add_note attrgetter breakpoint"
    " builtins compile copyright credits delattr dir eval exec exit gc getattr globals hasattr help id"
    " importlib license locals methodcaller os quit setattr super type vars sys typing"
    " typing_extensions enum Enum IntEnum StrEnum Flag IntFlag Generic Protocol ABC ABCMeta namedtuple"
    " NamedTuple TypedDict TYPE_CHECKING abstractmethod dataclass overload contextmanager".split()
)
BARRED_STARTS = re.compile(
    r"_wall|_pe_|_dcw_|_enum_|_cm_|_twin_re_|_lay_|_law_|_stub_|_sre|_WallAttr"
    r"|(_cold|_tuplegetter|_outside|_record|_written_out|_member_names)[0-9_]*$|(f|tb|co|gi|cr)_"
)
PLAIN_NAME = re.compile(r"_?[A-Za-z][A-Za-z0-9_]*|_")
NODES = (
    ast.Module, ast.ImportFrom, ast.alias, ast.ClassDef, ast.FunctionDef, ast.arguments, ast.arg,
    ast.Expr, ast.Assign, ast.AugAssign, ast.Return, ast.If, ast.For, ast.While, ast.Break,
    ast.Continue, ast.Pass, ast.Raise, ast.Constant, ast.Name, ast.Attribute, ast.Subscript,
    ast.Slice, ast.Tuple, ast.List, ast.Dict, ast.ListComp, ast.DictComp, ast.comprehension,
    ast.Call, ast.Compare, ast.BoolOp, ast.UnaryOp, ast.BinOp, ast.IfExp, ast.JoinedStr,
    ast.FormattedValue, ast.Load, ast.Store, ast.Eq, ast.NotEq, ast.Lt, ast.LtE, ast.Gt, ast.GtE,
    ast.In, ast.NotIn, ast.Is, ast.IsNot, ast.And, ast.Or, ast.Not, ast.USub, ast.Add, ast.Sub,
    ast.Mult, ast.FloorDiv, ast.Mod, ast.Match, ast.match_case, ast.MatchSequence, ast.MatchValue,
    ast.MatchAs,
)


def package_faults(folder):
    """The faults of all files of a package, and of how they import from each other."""
    found = []
    sources = {}
    for path in sorted(pathlib.Path(folder).iterdir()):
        if path.name == "__pycache__":
            continue
        if not re.fullmatch(r"(__init__|[a-z][a-z0-9_]*)\.py", path.name) or not path.is_file():
            found.append(f"L1 {path.name}: no plain .py file")
        else:
            sources[path.stem] = path.read_bytes().decode("utf-8")
    if "__init__" not in sources:
        found.append("L14 no __init__.py")
    for stem in sources:
        found += [f"{stem}.py: {fault}" for fault in file_faults(sources[stem])]
    return found + import_faults(sources)


def file_faults(source):
    """The faults of one file, whatever the others hold."""
    with warnings.catch_warnings():
        warnings.simplefilter("error")
        try:
            tree = ast.parse(source)
            compile(source, "file", "exec")
        except (SyntaxError, SyntaxWarning, DeprecationWarning) as error:
            return [f"L27 does not compile without a warning: {error}"]
    found = text_faults(source) + module_faults(tree)
    found += [fault for node in ast.walk(tree) for fault in node_faults(node)]
    if not found:
        found = name_faults(tree) + use_faults(tree) + match_faults(tree)
    return found


def text_faults(source):
    found = []
    lines = source.split("\n")
    if len(lines) > 399:
        found.append("L10 more than 399 lines")
    for at, line in enumerate(lines, start=1):
        if len(line) > 120:
            found.append(f"L10 line {at}: more than 120 characters")
        if not all(" " <= sign <= "~" for sign in line):
            found.append(f"L14 line {at}: a character that isn't plain")
        if "\\" in line:
            found.append(f"L27 line {at}: a backslash")
    return found


def is_docstring(statement):
    return (
        isinstance(statement, ast.Expr)
        and isinstance(statement.value, ast.Constant)
        and isinstance(statement.value.value, str)
    )


def without_docstring(body):
    return body[1:] if body and is_docstring(body[0]) else body


def is_plain_value(node):
    """A literal number, string, True, False, None, or a tuple of such: nothing that can be changed."""
    if isinstance(node, ast.Tuple):
        return all(is_plain_value(part) for part in node.elts)
    if isinstance(node, ast.UnaryOp) and isinstance(node.op, ast.USub):
        return isinstance(node.operand, ast.Constant) and isinstance(node.operand.value, int)
    return isinstance(node, ast.Constant)


def module_faults(tree):
    found = []
    bound = []
    imports_over = False
    for statement in without_docstring(tree.body):
        at = statement.lineno
        if isinstance(statement, ast.ImportFrom):
            if imports_over:
                found.append(f"L2 line {at}: an import that isn't at the top")
            bound += [alias.asname or alias.name for alias in statement.names]
            continue
        imports_over = True
        if isinstance(statement, (ast.FunctionDef, ast.ClassDef)):
            bound.append(statement.name)
        elif isinstance(statement, ast.Assign) and is_plain_value(statement.value):
            if len(statement.targets) != 1 or not isinstance(statement.targets[0], ast.Name):
                found.append(f"L3 line {at}: not one plain name")
            else:
                bound.append(statement.targets[0].id)
        else:
            found.append(f"L3 line {at}: {statement.__class__.__name__} at module level")
    for name in sorted(set(bound)):
        if bound.count(name) > 1:
            found.append(f"L15 {name}: bound twice at module level")
        if name in dir(builtins):
            found.append(f"L15 {name}: the name of a builtin")
    return found


def node_faults(node):
    """What can be told of a node by itself."""
    at = getattr(node, "lineno", 0)
    found = []
    if not isinstance(node, NODES):
        return [f"L6/L7 line {at}: {node.__class__.__name__}"]
    if isinstance(node, ast.ImportFrom):
        if node.level or not (node.module or "").startswith(PACKAGE + "."):
            found.append(f"L2 line {at}: not from a module of the package by its full name")
        if any(alias.asname or alias.name == "*" for alias in node.names):
            found.append(f"L2 line {at}: as, or a star")
    if isinstance(node, ast.FunctionDef):
        found += function_faults(node)
    if isinstance(node, ast.ClassDef):
        if node.decorator_list or node.keywords or len(node.bases) != 1:
            found.append(f"L5 line {at}: not a plain error class")
        if any(not isinstance(part, ast.Pass) for part in without_docstring(node.body)):
            found.append(f"L5 line {at}: an error class with more than a docstring")
    if isinstance(node, ast.Constant):
        if isinstance(node.value, (float, complex, bytes)) or node.value is Ellipsis:
            found.append(f"L7 line {at}: {node.value!r}")
        if isinstance(node.value, str) and ("%" in node.value or node.value.endswith(("._", ".__"))):
            found.append(f"L27 line {at}: a string with what it may not have")
        if isinstance(node.value, int) and node.value >= 2 ** 31:
            found.append(f"L27 line {at}: a large number")
    if isinstance(node, ast.FormattedValue) and (node.format_spec or node.conversion != -1):
        found.append(f"L7 line {at}: a format in an f-string")
    if isinstance(node, ast.FormattedValue):
        for part in ast.walk(node.value):
            if isinstance(part, ast.JoinedStr) or isinstance(getattr(part, "value", 0), str):
                found.append(f"L27 line {at}: a string within an f-string's braces")
    if isinstance(node, ast.Call) and (
        node.keywords and [(word.arg, ast.unparse(word.value)) for word in node.keywords] != [("reverse", "True")]
    ):
        found.append(f"L22 line {at}: a keyword")
    if isinstance(node, (ast.Call, ast.Tuple, ast.List)):
        if any(isinstance(part, ast.Starred) for part in ast.iter_child_nodes(node)):
            found.append(f"L7 line {at}: a star")
    if isinstance(node, ast.Compare) and any(isinstance(op, (ast.Is, ast.IsNot)) for op in node.ops):
        plain = [part for part in node.comparators if isinstance(part, ast.Constant)]
        if len(node.ops) != 1 or not plain or plain[0].value not in (None, True, False):
            found.append(f"L20 line {at}: is, without None, True or False")
    if isinstance(node, ast.Raise):
        if node.cause or not (isinstance(node.exc, ast.Call) and isinstance(node.exc.func, ast.Name)):
            found.append(f"L19 line {at}: not an error made on the spot")
    return found


def function_faults(node):
    found = []
    at = node.lineno
    told = node.args
    if node.decorator_list or node.returns or getattr(node, "type_params", []):
        found.append(f"L4 line {at}: a decorator or an annotation")
    if told.posonlyargs or told.kwonlyargs or told.vararg or told.kwarg or told.defaults:
        found.append(f"L4 line {at}: more than plain parameters")
    if any(part.annotation for part in told.args):
        found.append(f"L21 line {at}: an annotation")
    if node.end_lineno - at + 1 > 40:
        found.append(f"L10 line {at}: more than 40 lines")
    if any(isinstance(part, (ast.FunctionDef, ast.ClassDef)) for part in ast.walk(node) if part is not node):
        found.append(f"L4 line {at}: something defined within")
    return found


def docstrings(tree):
    return [
        part.body[0].value
        for part in ast.walk(tree)
        if isinstance(part, (ast.Module, ast.FunctionDef, ast.ClassDef)) and part.body and is_docstring(part.body[0])
    ]


def name_faults(tree):
    """How things may be called, and that each name that is read is one that the file binds."""
    found = []
    known = docstrings(tree)
    shared = {alias.name for part in tree.body if isinstance(part, ast.ImportFrom) for alias in part.names}
    classes = {part.name for part in tree.body if isinstance(part, ast.ClassDef)}
    at_top = set(shared) | classes
    at_top |= {part.name for part in tree.body if isinstance(part, ast.FunctionDef)}
    at_top |= {part.targets[0].id for part in tree.body if isinstance(part, ast.Assign)}
    for part in ast.walk(tree):
        at = getattr(part, "lineno", 0)
        given = getattr(part, "id", None) or getattr(part, "name", None) or getattr(part, "arg", None)
        if isinstance(part, ast.Attribute):
            given = part.attr
        if given and (not PLAIN_NAME.fullmatch(given) or BARRED_STARTS.match(given) or given in BARRED):
            found.append(f"L12/L17 line {at}: the name {given}")
        if isinstance(part, ast.Constant) and isinstance(part.value, str) and part not in known:
            if set(re.findall(r"[A-Za-z_]\w*", part.value)) & BARRED or "__" in part.value:
                found.append(f"L17/L27 line {at}: a word that a string may not have")
    for function in [part for part in tree.body if isinstance(part, ast.FunctionDef)]:
        names = [part for part in ast.walk(function) if isinstance(part, ast.Name)]
        own = {part.arg for part in ast.walk(function) if isinstance(part, ast.arg)}
        own |= {part.id for part in names if isinstance(part.ctx, ast.Store)}
        own |= captures(function)
        for name in sorted(own & (at_top | set(dir(builtins)))):
            found.append(f"L15 {function.name}: {name} is the name of something else")
        for part in names:
            if isinstance(part.ctx, ast.Load) and part.id not in own | at_top | BUILTINS:
                found.append(f"L8 line {part.lineno}: {part.id}")
            if isinstance(part.ctx, ast.Load) and part.id == "_":
                found.append(f"L12 line {part.lineno}: _ is read")
    return found


def captures(node):
    """The names that the patterns within a node capture."""
    return {part.name for part in ast.walk(node) if isinstance(part, ast.MatchAs) and part.name}


def match_faults(tree):
    """Patterns are of literals, names and sequences; what a case captures is read there alone, and not bound."""
    found = []
    for part in ast.walk(tree):
        at = getattr(part, "lineno", 0)
        if isinstance(part, ast.match_case) and part.guard:
            found.append(f"L6 line {part.pattern.lineno}: a test in a case")
        if isinstance(part, ast.MatchAs) and part.pattern:
            found.append(f"L6 line {at}: as, in a pattern")
        if isinstance(part, ast.MatchValue):
            told = part.value
            if not isinstance(told, ast.Constant) or not isinstance(told.value, (int, str)):
                found.append(f"L6 line {at}: neither a number nor a string in a pattern")
    for function in [part for part in tree.body if isinstance(part, ast.FunctionDef)]:
        cases = [part for part in ast.walk(function) if isinstance(part, ast.match_case)]
        bound = {part.arg for part in ast.walk(function) if isinstance(part, ast.arg)}
        names = [part for part in ast.walk(function) if isinstance(part, ast.Name)]
        bound |= {part.id for part in names if isinstance(part.ctx, ast.Store)}
        for name in sorted(captures(function) & bound):
            found.append(f"L6 {function.name}: {name} is captured, and bound otherwise")
        allowed = []
        for case in cases:
            own = captures(case.pattern)
            inner = {name for statement in case.body for name in captures(statement)}
            for name in sorted(own & inner):
                found.append(f"L6 {function.name}: {name} is captured again inside its case")
            allowed += [
                part for statement in case.body for part in ast.walk(statement)
                if isinstance(part, ast.Name) and part.id in own
            ]
        for part in names:
            if part.id in captures(function) and part not in allowed:
                found.append(f"L6 line {part.lineno}: {part.id} is read outside of its case")
    return found


def called_name(node):
    if not isinstance(node, ast.Call):
        return None
    return node.func.attr if isinstance(node.func, ast.Attribute) else getattr(node.func, "id", None)


def use_faults(tree):
    """How calls, loops, errors and the values of functions are used."""
    found = []
    nodes = list(ast.walk(tree))
    called = [part.func for part in nodes if isinstance(part, ast.Call)]
    raised = [part.exc.func for part in nodes if isinstance(part, ast.Raise)]
    loops = [part for part in nodes if isinstance(part, (ast.For, ast.comprehension))]
    taken = [part.iter for part in loops]
    taken += [arg for part in nodes if called_name(part) in TAKERS for arg in part.args]
    functions = {part.name for part in tree.body if isinstance(part, ast.FunctionDef)}
    errors = {part.name for part in tree.body if isinstance(part, ast.ClassDef)}
    errors |= {
        alias.name
        for part in tree.body
        if isinstance(part, ast.ImportFrom) and part.module == PACKAGE + ".errors"
        for alias in part.names
    }
    for part in nodes:
        at = getattr(part, "lineno", 0)
        if isinstance(part, ast.Attribute) and (part not in called or part.attr not in METHODS):
            found.append(f"L25 line {at}: .{part.attr}")
        if isinstance(part, ast.Call) and not isinstance(part.func, (ast.Name, ast.Attribute)):
            found.append(f"L7 line {at}: a call of what has no name")
        if isinstance(part, ast.Name) and part.id in BUILTINS | functions and part not in called:
            found.append(f"L22 line {at}: {part.id} is used as a value")
        if called_name(part) in AT_ONCE and part not in taken:
            found.append(f"L23 line {at}: {called_name(part)} isn't iterated at once")
        if isinstance(part, ast.Raise) and part.exc.func.id not in errors:
            found.append(f"L19 line {at}: {part.exc.func.id} is no error of the package")
        if isinstance(part, ast.Name) and part.id in errors and part not in raised:
            if not any(part in one.bases for one in tree.body if isinstance(one, ast.ClassDef)):
                found.append(f"L18 line {at}: {part.id} is used as a value")
    for part in loops:
        rows = {name.id for name in ast.walk(part.iter) if isinstance(name, ast.Name)}
        for changed, at in changes(part.body if isinstance(part, ast.For) else []):
            if changed in rows:
                found.append(f"L23 line {at}: {changed} is changed while it is gone through")
    return found


def changes(statements):
    """The names whose values the statements change, each with its line."""
    found = []
    for part in [node for statement in statements for node in ast.walk(statement)]:
        target = None
        if isinstance(part, ast.Subscript) and isinstance(part.ctx, ast.Store):
            target = part.value
        elif isinstance(part, ast.AugAssign):
            target = part.target
        elif called_name(part) in CHANGING and isinstance(part.func, ast.Attribute):
            target = part.func.value
        while isinstance(target, ast.Subscript):
            target = target.value
        if isinstance(target, ast.Name):
            found.append((target.id, part.lineno))
    return found


def import_faults(sources):
    """Each name is imported from the file that defines it, and no two files import from each other."""
    found = []
    defines, reaches = {}, {}
    for stem, source in sources.items():
        body = ast.parse(source).body
        defines[stem] = {part.name for part in body if isinstance(part, (ast.FunctionDef, ast.ClassDef))}
        defines[stem] |= {part.targets[0].id for part in body if isinstance(part, ast.Assign)}
        reaches[stem] = set()
    for stem, source in sources.items():
        for part in ast.parse(source).body:
            if not isinstance(part, ast.ImportFrom):
                continue
            other = part.module.rpartition(".")[2]
            reaches[stem] |= {other, "__init__"}
            for alias in part.names:
                if alias.name not in defines.get(other, ()):
                    found.append(f"L16 {stem}.py: {alias.name} isn't defined in {part.module}")
    for _ in sources:
        for stem in reaches:
            for other in sorted(reaches[stem]):
                reaches[stem] |= reaches.get(other, set())
    return found + [f"L16 {stem}.py: imports itself" for stem in sorted(reaches) if stem in reaches[stem]]
