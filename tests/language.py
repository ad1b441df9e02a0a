"""Checks of the subset of Python in which the package is written.

It is stricter than the rules in some places, and knows not all of them: each
check is a function that yields the faults of one file, as rows of text.
"""

import ast
import builtins
import os
import re

FOLDER = os.path.join(os.path.dirname(os.path.dirname(os.path.abspath(__file__))), 'outandover')

BUILTINS = set('''len range enumerate zip min max sum abs sorted reversed int str bool list tuple dict set isinstance
ord repr any all divmod iter super property staticmethod classmethod ValueError TypeError KeyError'''.split())

METHODS = set('''append clear copy count endswith extend find get index insert isalnum isalpha isdigit islower isspace
isupper items join keys ljust lower lstrip partition pop remove replace reverse rfind rjust rpartition rsplit rstrip
setdefault split splitlines startswith strip update upper values zfill bit_length add discard'''.split())

# Names that strings, numbers, lists, dicts and sets have, and that attributes may have nevertheless.
FREE_ATTRIBUTES = set('count index title find get join lower upper split strip copy add'.split())
FREE_METHODS = METHODS - {'sort'}

DOUBLE = set('''__init__ __eq__ __repr__ __str__ __len__ __enter__ __exit__ __call__ __iter__ __lt__ __le__ __gt__
__ge__ __ne__ __add__ __sub__ __mul__ __floordiv__ __mod__ __pow__ __and__ __or__ __xor__ __lshift__ __rshift__
__iadd__ __isub__ __iand__ __ior__ __ixor__ __neg__ __pos__ __invert__ __abs__ __bool__ __contains__ __getitem__
__setitem__'''.split())
CHANGING = {'__init__', '__call__', '__setitem__', '__enter__', '__exit__'} | {
    name for name in DOUBLE if name.startswith('__i') and name not in ('__init__', '__iter__', '__invert__')}

BARRED = set('''register mro elements open input law version_info with_traceback add_note'''.split())
BARRED_NAMES = set('''attrgetter breakpoint builtins compile copyright credits delattr dir eval exec exit gc globals
help id importlib license locals methodcaller os quit super type vars sys'''.split())
BARRED_WORDS = set('''type typing typing_extensions enum Enum IntEnum StrEnum Flag IntFlag Generic Protocol ABC ABCMeta
namedtuple NamedTuple TypedDict TYPE_CHECKING abstractmethod'''.split())
BARRED_STARTS = ('_wall', '_pe_', '_dcw_', '_enum_', '_cm_', '_twin_re_', '_lay_', '_law_', '_stub_', '_sre')

# Statements and expressions that the package does without, some of them although a rule would allow them.
BARRED_NODES = (
    ast.Global, ast.AsyncFunctionDef, ast.AsyncFor, ast.AsyncWith, ast.Await, ast.Lambda, ast.Div, ast.Match,
    ast.NamedExpr, ast.GeneratorExp, ast.AnnAssign, ast.Import, ast.YieldFrom, ast.Delete, ast.Nonlocal,
)

MUTATING = set('append clear extend insert pop remove reverse setdefault update add discard sort'.split())
FRESH_CALLS = set('list dict set sorted'.split())


def files():
    """The names of the files of the package, without their ending."""
    return sorted([name[:-3] for name in os.listdir(FOLDER) if name.endswith('.py')])


def text_of(name):
    with open(os.path.join(FOLDER, name + '.py'), encoding='utf-8') as source:
        return source.read()


def trees():
    return {name: ast.parse(text_of(name)) for name in files()}


def functions_in(tree):
    return [node for node in ast.walk(tree) if isinstance(node, ast.FunctionDef)]


def classes_in(tree):
    return [node for node in ast.walk(tree) if isinstance(node, ast.ClassDef)]


def folder_faults():
    for entry in os.listdir(FOLDER):
        if entry != '__pycache__' and not re.fullmatch(r'[a-z_][a-z0-9_]*\.py', entry):
            yield f'{entry}: L1, L14'
    if len(files()) > 100:
        yield 'L14: too many files'


def text_faults(name):
    """L10, L12, L14, L17."""
    text = text_of(name)
    rows = text.split('\n')
    if len(rows) > 399:
        yield f'{name}: L10: {len(rows)} lines'
    for at, row in enumerate(rows, 1):
        if len(row) > 120 or '\t' in row:
            yield f'{name}:{at}: L10'
        if not all(' ' <= letter <= '~' for letter in row):
            yield f'{name}:{at}: L14'
        if re.search(r'\b_wall\b|_WallAttr|dataclass|overload|contextmanager|\(type\)|Meta|metaclass=', row):
            yield f'{name}:{at}: L12, L17'


def node_faults(name, tree):
    """L6, L7, L8, L20, L27 and others."""
    docs = set()
    for node in ast.walk(tree):
        if isinstance(node, (ast.Module, ast.FunctionDef, ast.ClassDef)) and ast.get_docstring(node) is not None:
            docs.add(node.body[0].value)
    for node in ast.walk(tree):
        at = f'{name}:{getattr(node, "lineno", 0)}'
        if isinstance(node, BARRED_NODES):
            yield f'{at}: {node.__class__.__name__}'
        if isinstance(node, ast.Constant):
            yield from constant_faults(at, node, node in docs)
        if isinstance(node, ast.Compare):
            for op, side in zip(node.ops, node.comparators):
                if isinstance(op, (ast.Is, ast.IsNot)) and not (
                        isinstance(side, ast.Constant) and side.value in (None, True, False)):
                    yield f'{at}: L20'
        if isinstance(node, ast.FunctionDef):
            if node.end_lineno - node.lineno + 1 > 40:
                yield f'{at}: L10: {node.name}'
            if node.returns or any(arg.annotation for arg in node.args.args):
                yield f'{at}: L21'
        if isinstance(node, ast.AugAssign):
            yield f'{at}: L5: the package does without +='
        if isinstance(node, ast.Try):
            yield from try_faults(at, node)
    for node in ast.walk(tree):
        if isinstance(node, ast.Name) and node.id == 'frozenset':
            yield f'{name}:{node.lineno}: L24'


def try_faults(at, node):
    """L6, L19: own errors alone are caught, and nothing is done finally."""
    own = {part.name for part in classes_in(ast.parse(text_of('errors')))}
    if node.finalbody:
        yield f'{at}: the package does without finally'
    for handler in node.handlers:
        if not isinstance(handler.type, ast.Name) or handler.type.id not in own:
            yield f'{at}: L19'
    for part in ast.walk(node):
        if isinstance(part, ast.Raise) and part.exc is not None and not isinstance(part.exc, ast.Call):
            yield f'{at}: L19: raise'


def constant_faults(at, node, is_doc):
    worth = node.value
    if isinstance(worth, (float, complex, bytes)):
        yield f'{at}: L7'
    if isinstance(worth, str):
        if '%' in worth:
            yield f'{at}: L27'
        if worth.endswith('._') or worth.endswith('.__'):
            yield f'{at}: L27'
        if worth.startswith('__') and worth.endswith('__'):
            yield f'{at}: L27'
        if not is_doc and BARRED_WORDS & set(re.findall(r'\w+', worth)):
            yield f'{at}: L17'


def set_faults(name, tree):
    """L24: sets stand in sorted(..), in len(..), behind in, or are kept by one plain name."""
    parents = {child: node for node in ast.walk(tree) for child in ast.iter_child_nodes(node)}
    for node in ast.walk(tree):
        is_set = isinstance(node, (ast.Set, ast.SetComp)) or (
            isinstance(node, ast.Call) and isinstance(node.func, ast.Name) and node.func.id == 'set')
        if not is_set:
            continue
        above = parents[node]
        while isinstance(above, ast.BinOp):
            above = parents[above]
        inside = isinstance(above, ast.Call) and isinstance(above.func, ast.Name) and above.func.id in ('sorted', 'len')
        if not inside and not isinstance(above, ast.Compare):
            yield f'{name}:{node.lineno}: L24'


def bound_names(node):
    """The names that a function binds, those of its comprehensions included."""
    found = [arg.arg for arg in all_arguments(node)]
    for part in ast.walk(node):
        if isinstance(part, ast.Name) and isinstance(part.ctx, ast.Store):
            found.append(part.id)
        if isinstance(part, ast.FunctionDef) and part is not node:
            found.append(part.name)
        if isinstance(part, ast.ExceptHandler) and part.name:
            found.append(part.name)
    return set(found)


def all_arguments(node):
    spec = node.args
    return spec.posonlyargs + spec.args + spec.kwonlyargs + [arg for arg in (spec.vararg, spec.kwarg) if arg]


def name_faults(name, tree):
    """L8, L12, L15, L17."""
    top = {node.name for node in tree.body if isinstance(node, (ast.FunctionDef, ast.ClassDef))}
    top |= {target.id for node in tree.body if isinstance(node, ast.Assign) for target in node.targets}
    imports = {alias.name for node in tree.body if isinstance(node, ast.ImportFrom) for alias in node.names}
    classes = {node.name for node in classes_in(tree)}
    if len(top) + len(imports) != len(top | imports):
        yield f'{name}: L15: a name is bound twice'
    for node in functions_in(tree):
        bound = bound_names(node)
        for word in sorted(bound & (imports | classes)):
            yield f'{name}:{node.lineno}: L15: {word}'
        for word in sorted((bound | {node.name}) - DOUBLE):
            if word in BARRED | BARRED_NAMES or word.startswith(BARRED_STARTS) or word.startswith('__'):
                yield f'{name}:{node.lineno}: L12, L17: {word}'
        for word in sorted(bound):
            if hasattr(builtins, word):
                yield f'{name}:{node.lineno}: L15: {word} is a builtin'
        for part in ast.walk(node):
            if isinstance(part, ast.Name) and isinstance(part.ctx, ast.Load):
                if part.id == '_':
                    yield f'{name}:{part.lineno}: L12: _ is read'
                if hasattr(builtins, part.id) and part.id not in BUILTINS:
                    yield f'{name}:{part.lineno}: L8: {part.id}'
    for word in top | imports:
        if hasattr(builtins, word) or word in BARRED | BARRED_NAMES:
            yield f'{name}: L15, L17: {word}'


def module_faults(name, tree, all_trees):
    """L2, L3, L16."""
    behind = False
    for at, node in enumerate(tree.body):
        is_doc = at == 0 and isinstance(node, ast.Expr) and isinstance(node.value, ast.Constant)
        if isinstance(node, ast.ImportFrom):
            yield from import_faults(name, node, all_trees)
            if behind:
                yield f'{name}:{node.lineno}: L2: imports stand at the top'
        elif isinstance(node, ast.Assign):
            behind = True
            if len(node.targets) != 1 or not isinstance(node.targets[0], ast.Name):
                yield f'{name}:{node.lineno}: L3'
            for part in ast.walk(node.value):
                if isinstance(part, (ast.Call, ast.Attribute)):
                    yield f'{name}:{node.lineno}: L3'
        elif isinstance(node, (ast.FunctionDef, ast.ClassDef)):
            behind = True
        elif not is_doc:
            yield f'{name}:{node.lineno}: L3'


def import_faults(name, node, all_trees):
    if node.module == 'heapq' and {alias.name for alias in node.names} <= {'heapify', 'heappop', 'heappush'}:
        return
    word = (node.module or '').removeprefix('outandover.')
    if node.level or not (node.module or '').startswith('outandover.') or word not in all_trees:
        yield f'{name}:{node.lineno}: L2'
        return
    own = {part.name for part in all_trees[word].body if isinstance(part, (ast.FunctionDef, ast.ClassDef))}
    own |= {part.targets[0].id for part in all_trees[word].body if isinstance(part, ast.Assign)}
    for alias in node.names:
        if alias.asname or alias.name not in own:
            yield f'{name}:{node.lineno}: L16: {alias.name}'
    used = {part.id for part in ast.walk(all_trees[name]) if isinstance(part, ast.Name)}
    for alias in node.names:
        if alias.name not in used:
            yield f'{name}:{node.lineno}: {alias.name} is not used'


def ring_faults(all_trees):
    """L16: no two files import from each other."""
    direct = {}
    for name, tree in all_trees.items():
        direct[name] = {node.module.split('.')[-1] for node in tree.body if isinstance(node, ast.ImportFrom)}
    for name in direct:
        found, waiting = set(), list(direct[name])
        while waiting:
            other = waiting.pop()
            if other not in found:
                found.add(other)
                waiting.extend(direct.get(other, ()))
        if name in found:
            yield f'{name}: L16: imports itself through others'


def class_faults(name, tree, all_trees):
    """L5, L18, L26, L28."""
    methods, attributes, properties = members_of(all_trees)
    for node in classes_in(tree):
        own = [part for part in node.body if isinstance(part, ast.FunctionDef)]
        names = [part.name for part in own]
        for part in own:
            if part.name.startswith('__') and part.name not in DOUBLE:
                yield f'{name}:{part.lineno}: L5: {part.name}'
            if part.name == '__len__' and not returns_call(part, ('len',)):
                yield f'{name}:{part.lineno}: L28: __len__'
            if part.name in ('__str__', '__repr__') and not returns_call(part, ('str', 'repr')):
                yield f'{name}:{part.lineno}: L28: {part.name}'
            if part.name in BARRED or (hasattr(builtins, part.name) and part.name in BUILTINS):
                yield f'{name}:{part.lineno}: L8, L17: {part.name}'
        if '__getitem__' in names and '__iter__' not in names:
            yield f'{name}:{node.lineno}: L5: __getitem__ without __iter__'
        if len(set(names)) < len(names) - len([part for part in own if is_setter(part)]):
            yield f'{name}:{node.lineno}: L18: a method is defined twice'
    for node in ast.walk(tree):
        if not isinstance(node, ast.Attribute):
            continue
        word = node.attr
        if isinstance(node.ctx, ast.Store):
            if word in METHODS - FREE_ATTRIBUTES or word in BARRED | {'args', 'sort', 'format'}:
                yield f'{name}:{node.lineno}: L26: {word}'
            if properties.get(word) is False:
                yield f'{name}:{node.lineno}: L5: the property {word} has no setter'
        elif word not in METHODS | methods | attributes | set(properties):
            yield f'{name}:{node.lineno}: L18, L25: {word}'


def is_setter(node):
    return any(isinstance(part, ast.Attribute) and part.attr == 'setter' for part in node.decorator_list)


def returns_call(node, names):
    found = [part.value for part in ast.walk(node) if isinstance(part, ast.Return)]
    return all(isinstance(part, ast.JoinedStr) or isinstance(part, ast.Call) and isinstance(part.func, ast.Name)
               and part.func.id in names for part in found) and isinstance(node.body[-1], ast.Return)


def members_of(all_trees):
    """The methods, the attributes and the properties (whether they have a setter) of all classes."""
    methods, attributes, properties = set(), set(), {}
    for tree in all_trees.values():
        for node in classes_in(tree):
            for part in node.body:
                if isinstance(part, ast.Assign):
                    attributes.add(part.targets[0].id)
                if isinstance(part, ast.FunctionDef):
                    if is_setter(part):
                        properties[part.name] = True
                    elif any(isinstance(word, ast.Name) and word.id == 'property' for word in part.decorator_list):
                        properties.setdefault(part.name, False)
                    else:
                        methods.add(part.name)
        for node in ast.walk(tree):
            if isinstance(node, ast.Attribute) and isinstance(node.ctx, ast.Store):
                attributes.add(node.attr)
    return methods | {'setter'}, attributes, properties


def member_faults(all_trees):
    """L5, L18: no name is two of a method, an attribute and a property."""
    methods, attributes, properties = members_of(all_trees)
    assigned = {word for word in attributes if word not in properties}
    for word in sorted((methods & assigned) | (methods & set(properties))):
        yield f'L5, L18: {word}'


def generator_faults(all_trees):
    """L23: generators have names of their own, and are not used in the package unless by a for."""
    named = {}
    for tree in all_trees.values():
        for node in functions_in(tree):
            named.setdefault(node.name, []).append(any(isinstance(part, ast.Yield) for part in ast.walk(node)))
    for word, kinds in named.items():
        if any(kinds) and len(kinds) > 1:
            yield f'L23: {word}'


def pure_faults(all_trees):
    """L5: what operators and properties run changes nothing that it did not create."""
    functions = {}
    for name, tree in all_trees.items():
        for node in functions_in(tree):
            functions.setdefault(node.name, []).append((name, node))
    waiting = []
    for tree in all_trees.values():
        for node in classes_in(tree):
            for part in node.body:
                if isinstance(part, ast.FunctionDef) and is_pure_member(part):
                    waiting.append(part.name)
    seen = set()
    while waiting:
        word = waiting.pop()
        if word in seen or word in CHANGING:
            continue
        seen.add(word)
        for name, node in functions.get(word, []):
            if not is_setter(node):
                yield from change_faults(name, node)
                waiting.extend(called_names(node))


def is_pure_member(node):
    if is_setter(node):
        return False
    is_property = any(isinstance(word, ast.Name) and word.id == 'property' for word in node.decorator_list)
    return is_property or node.name in DOUBLE - CHANGING


def called_names(node):
    for part in ast.walk(node):
        if isinstance(part, ast.Call):
            if isinstance(part.func, ast.Name):
                yield part.func.id
            if isinstance(part.func, ast.Attribute) and part.func.attr not in METHODS:
                yield part.func.attr


def is_fresh(node):
    if isinstance(node, (ast.List, ast.Dict, ast.ListComp, ast.DictComp)):
        return True
    return isinstance(node, ast.Call) and isinstance(node.func, ast.Name) and node.func.id in FRESH_CALLS


def change_faults(name, node):
    created, made = {}, {}
    classes = {own.name for own in classes_in(ast.parse(text_of(name)))}
    for part in ast.walk(node):
        if isinstance(part, ast.Assign) and isinstance(part.targets[0], ast.Name):
            created.setdefault(part.targets[0].id, []).append(is_fresh(part.value))
            is_object = isinstance(part.value, ast.Call) and getattr(part.value.func, 'id', '') in classes
            made.setdefault(part.targets[0].id, []).append(is_object)
    for part in ast.walk(node):
        target = None
        if isinstance(part, ast.Call) and isinstance(part.func, ast.Attribute) and part.func.attr in MUTATING:
            target = part.func.value
        if isinstance(part, ast.Subscript) and isinstance(part.ctx, ast.Store):
            target = part.value
        if isinstance(part, ast.Attribute) and isinstance(part.ctx, ast.Store):
            if not (isinstance(part.value, ast.Name) and made.get(part.value.id) == [True]):
                yield f'{name}:{part.lineno}: L5: {node.name} changes {part.attr}'
        if target is not None and not (isinstance(target, ast.Name) and all(created.get(target.id, [False]))):
            yield f'{name}:{part.lineno}: L5: {node.name} changes what it did not create'
        if isinstance(part, ast.Call) and isinstance(part.func, ast.Name) and part.func.id in parameters_of(node):
            if part.func.id != 'cls':
                yield f'{name}:{part.lineno}: L5: {node.name} calls what it is passed'


def parameters_of(node):
    return [arg.arg for arg in all_arguments(node)]


def all_faults():
    """All faults of the package."""
    found = list(folder_faults())
    all_trees = trees()
    for name, tree in all_trees.items():
        found.extend(text_faults(name))
        for check in (node_faults, set_faults, name_faults):
            found.extend(check(name, tree))
        found.extend(module_faults(name, tree, all_trees))
        found.extend(class_faults(name, tree, all_trees))
    for check in (ring_faults, member_faults, generator_faults, pure_faults):
        found.extend(check(all_trees))
    return found
