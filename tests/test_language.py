"""The form of the package's files: the rules of LANGUAGE.md that a look at the code can tell.

The package keeps to a smaller part of the language than the rules allow; what is not listed here is
told as a fault, so that whoever needs more looks up its rule and adds it.
"""

import ast
import builtins
import importlib
import pathlib
import re
import unittest

ROOT = pathlib.Path(__file__).resolve().parent.parent
PACKAGE = ROOT / "rootfast"
FILES = sorted(PACKAGE.rglob("*"))

NODES = {
    "Module", "Expr", "Import", "ImportFrom", "alias", "FunctionDef", "arguments", "arg", "ClassDef", "Return", "Assign",
    "AugAssign", "For", "While", "If", "Raise", "Pass", "Continue", "Break", "Constant", "Name", "Load", "Store", "Tuple",
    "List", "Dict", "Subscript", "Slice", "Attribute", "Call", "keyword", "BinOp", "UnaryOp", "BoolOp", "Compare", "IfExp",
    "ListComp", "DictComp", "comprehension", "JoinedStr", "FormattedValue", "And", "Or", "Not", "USub", "Add", "Sub",
    "Mult", "FloorDiv", "Mod", "LShift", "RShift", "BitAnd", "BitOr", "BitXor", "Eq", "NotEq", "Lt", "LtE", "Gt", "GtE",
    "Is", "IsNot", "In", "NotIn", "Try", "ExceptHandler", "Lambda",
}
BUILTINS = {
    "len", "range", "enumerate", "zip", "min", "max", "sum", "abs", "sorted", "reversed", "int", "str", "bool", "list",
    "tuple", "dict", "isinstance", "ord", "repr", "any", "all", "divmod", "ValueError", "type",
}
METHODS = {
    "append", "clear", "copy", "count", "endswith", "extend", "find", "get", "index", "insert", "isalnum", "isalpha",
    "items", "join", "keys", "ljust", "lower", "lstrip", "partition", "pop", "remove", "replace", "reverse", "rfind",
    "rjust", "rpartition", "rsplit", "rstrip", "setdefault", "split", "startswith", "strip", "upper", "values", "zfill",
    "bit_length",
}
LIBRARY = {"math": {"gcd", "lcm", "isqrt", "comb", "perm", "factorial"}, "itertools": {"combinations"}}
# Parameters and local variables that are functions.
FUNCTIONS = {"action", "form", "combined", "fits"}
BARRED = {
    "register", "mro", "elements", "open", "input", "law", "version_info", "with_traceback", "add_note", "attrgetter",
    "breakpoint", "compile", "copyright", "credits", "delattr", "dir", "eval", "exec", "exit", "gc", "globals", "help",
    "id", "importlib", "license", "locals", "methodcaller", "os", "quit", "super", "vars", "sys", "map", "next", "iter",
}


def trees():
    return {path: ast.parse(path.read_text()) for path in FILES if path.suffix == ".py"}


def bound_names(node):
    """The names that a function binds: its parameters, and all that it assigns to."""
    names = {a.arg for a in ast.walk(node) if isinstance(a, ast.arg)}
    return names | {x.id for x in ast.walk(node) if isinstance(x, ast.Name) and isinstance(x.ctx, ast.Store)}


def module_names(tree):
    """The list of the names that a file binds at module level."""
    names = []
    for node in tree.body:
        if isinstance(node, ast.ImportFrom):
            names += [alias.asname or alias.name for alias in node.names]
        elif isinstance(node, (ast.FunctionDef, ast.ClassDef)):
            names.append(node.name)
        elif isinstance(node, ast.Assign):
            names += [target.id for target in node.targets]
    return names


def own_methods():
    """The names of the methods of the package's classes."""
    classes = [x for tree in trees().values() for x in tree.body if isinstance(x, ast.ClassDef)]
    return {x.name for c in classes for x in c.body if isinstance(x, ast.FunctionDef)}


def docstrings(tree):
    holders = [x for x in ast.walk(tree) if isinstance(x, (ast.Module, ast.FunctionDef, ast.ClassDef))]
    firsts = [x.body[0] for x in holders if x.body and isinstance(x.body[0], ast.Expr)]
    return {id(x.value) for x in firsts}


class Form(unittest.TestCase):
    def test_files(self):
        files = [path for path in FILES if "__pycache__" not in path.parts]
        self.assertLessEqual(len(files), 100)
        self.assertTrue((PACKAGE / "__init__.py").exists())
        for path in files:
            self.assertTrue(path.is_file() and path.suffix == ".py", path)
            self.assertRegex(path.stem, r"^([a-z][a-z0-9_]*|__init__|__main__)$")
            self.assertFalse(path.stem[0] != "_" and hasattr(builtins, path.stem), path)

    def test_characters_and_sizes(self):
        for path in trees():
            text = path.read_text()
            lines = text.split("\n")
            self.assertLessEqual(len(lines), 399, path)
            for line in lines:
                self.assertLessEqual(len(line), 120, path)
                self.assertTrue(all(" " <= sign <= "~" for sign in line), (path, line))
            for word in ("_wall", "_WallAttr", "typing", "dataclass", "overload", "contextmanager"):
                self.assertNotIn(word, text, path)

    def test_parts_of_the_language(self):
        for path, tree in trees().items():
            for node in ast.walk(tree):
                self.assertIn(type(node).__name__, NODES, (path, getattr(node, "lineno", 0)))
                if isinstance(node, (ast.FunctionDef, ast.ClassDef)):
                    self.assertEqual(node.decorator_list, [])
                if isinstance(node, ast.FunctionDef):
                    self.assertLessEqual(node.end_lineno - node.lineno + 1, 40, (path, node.name))
                if isinstance(node, ast.Constant):
                    self.assertNotIsInstance(node.value, (float, complex, bytes), (path, node.lineno))

    def test_module_level(self):
        for path, tree in trees().items():
            for place, node in enumerate(tree.body):
                told = isinstance(node, ast.Expr) and place == 0 and isinstance(node.value, ast.Constant)
                kinds = (ast.ImportFrom, ast.FunctionDef, ast.ClassDef, ast.Assign)
                self.assertTrue(told or isinstance(node, kinds), (path, node.lineno))
            names = module_names(tree)
            self.assertEqual(len(names), len(set(names)), path)

    def test_imports(self):
        for path, tree in trees().items():
            for node in ast.walk(tree):
                self.assertNotIsInstance(node, ast.Import)
                if not isinstance(node, ast.ImportFrom):
                    continue
                names = [alias.name for alias in node.names]
                self.assertTrue(node.level == 0 and all(alias.asname is None for alias in node.names))
                if node.module in LIBRARY:
                    self.assertLessEqual(set(names), LIBRARY[node.module])
                    continue
                self.assertTrue(node.module.startswith("rootfast."), (path, node.module))
                source = ast.parse((PACKAGE / (node.module.split(".")[1] + ".py")).read_text())
                defined = [x.name for x in source.body if isinstance(x, (ast.FunctionDef, ast.ClassDef))]
                for name in names:
                    self.assertIn(name, defined, (path, name))
                    self.assertFalse(name.startswith("_"), (path, name))

    def test_imports_are_used_and_go_round_nowhere(self):
        following = {}
        for path, tree in trees().items():
            used = {x.id for x in ast.walk(tree) if isinstance(x, ast.Name)}
            imports = [x for x in tree.body if isinstance(x, ast.ImportFrom)]
            for node in imports:
                for alias in node.names:
                    self.assertIn(alias.name, used, path)
            following[path.stem] = [x.module.split(".")[-1] for x in imports]
        done = set()
        while len(done) < len(following):
            ready = [f for f in following if f not in done and all(x in done or x in LIBRARY for x in following[f])]
            self.assertTrue(ready, "files import each other")
            done |= set(ready)

    def test_names(self):
        for path, tree in trees().items():
            taken = {x.name for x in tree.body if isinstance(x, ast.ClassDef)}
            for node in tree.body:
                if isinstance(node, ast.ImportFrom):
                    taken |= {alias.name for alias in node.names}
            functions = [x for x in ast.walk(tree) if isinstance(x, ast.FunctionDef)]
            for function in functions:
                names = bound_names(function)
                self.assertEqual(names & taken, set(), (path, function.name))
                for name in (names | {function.name}) - {"__init__", "_"}:
                    self.assertFalse(name.startswith("__"), (path, name))
                    self.assertFalse(hasattr(builtins, name) or name in BARRED, (path, name))
            for name in module_names(tree):
                self.assertFalse(hasattr(builtins, name) or name in BARRED, (path, name))

    def test_what_is_called(self):
        own = own_methods()
        self.assertEqual(own & METHODS, set())
        for path, tree in trees().items():
            known = set(module_names(tree))
            for node in ast.walk(tree):
                if isinstance(node, ast.Call) and isinstance(node.func, ast.Name):
                    self.assertTrue(node.func.id in known | BUILTINS | FUNCTIONS, (path, node.func.id))
                elif isinstance(node, ast.Call):
                    self.assertIsInstance(node.func, ast.Attribute, (path, node.lineno))
                    self.assertIn(node.func.attr, METHODS | own, (path, node.lineno))
                    self.assertEqual(node.keywords, [], (path, node.lineno))

    def test_comparisons(self):
        for path, tree in trees().items():
            for node in ast.walk(tree):
                if not isinstance(node, ast.Compare):
                    continue
                for sign, side in zip(node.ops, node.comparators):
                    if isinstance(sign, (ast.Is, ast.IsNot)):
                        self.assertTrue(isinstance(side, ast.Constant) and side.value in (None, True, False))

    def test_caught_errors(self):
        own = {"BadNumber", "BadText", "NoPlace", "NoZero", "NotUpright", "Endless", "BadLine"}
        for path, tree in trees().items():
            for node in ast.walk(tree):
                if isinstance(node, ast.ExceptHandler):
                    self.assertTrue(isinstance(node.type, ast.Name) and node.name is None, path)
                    self.assertIn(node.type.id, own, path)
                if isinstance(node, ast.Try):
                    self.assertEqual(node.finalbody, [], path)
                if isinstance(node, ast.Raise):
                    self.assertTrue(isinstance(node.exc, ast.Call) and node.exc.func.id in own, (path, node.lineno))

    def test_strings(self):
        for path, tree in trees().items():
            told = docstrings(tree)
            for node in ast.walk(tree):
                if isinstance(node, ast.Constant) and isinstance(node.value, str) and id(node) not in told:
                    self.assertNotIn("%", node.value, (path, node.lineno))
                    self.assertNotIn("__", node.value, (path, node.lineno))
                    self.assertIsNone(re.search(r"\btype\b", node.value), (path, node.lineno))
                if isinstance(node, ast.Name) and node.id == "type":
                    line = path.read_text().split("\n")[node.lineno - 1]
                    self.assertRegex(line[node.col_offset:], r"^type\([a-z_]+\) (==|!=) (int|tuple|list|str)\b")


def parameters(function):
    return list(function.__code__.co_varnames[:function.__code__.co_argcount])


class Interface(unittest.TestCase):
    names = {
        "errors": "RootfastError BadNumber BadText NoPlace NoZero NotUpright Endless BadLine",
        "numbers": "number(a,b) plus(x,y) minus(x,y) times(x,y) over(x,y) power(x,k) read_number(text) is_number(value) "
                   "compare(x,y) write_number(x)",
        "intervals": "is_interval(value) has(i,x) lies_within(i,j) lies_inside(i,j) sum_of(i,j) difference_of(i,j) "
                     "product_of(i,j) multiple_of(x,i) power_of(i,k) hull_of(i,j) rounded(i,bits) meeting_of(i,j) "
                     "sign_of(i) middle_of(i) width_of(i)",
        "polynomials": "is_polynomial(n,value) polynomial(n,pairs) constant(n,x) variable(n,k) added(p,q) subtracted(p,q) "
                       "multiplied(p,q) scaled(p,x) raised(n,p,k) derivative(p,k) moved(n,p,point) fixed(n,p,k,x) "
                       "value_at(p,point) degree(p) degree_in(p,k)",
        "systems": "is_system(n,value) values_at(system,point) jacobian(n,system,point)",
        "matrices": "is_matrix(rows,columns,value) determinant(matrix) inverse(matrix) rank(matrix) "
                    "applied(matrix,vector) transposed(matrix) matrix_product(first,second)",
        "texts": "read_polynomial(n,text) write_polynomial(n,p) write_system(n,system) read_system(n,text)",
        "single": "divided(p,q) common_divisor(p,q) simple_part(p) parts(p)",
        "real": "chain(p) changes(chain,x) count_roots(p,low,high) root_bound(p) isolated(p) refined(p,interval,bits)",
        "bernstein": "bernstein(p,low,high) halved(coefficients)",
        "combs": "variations(p,low,high) check_comb(p,low,high,value) comb(p,low,high,depth) comb_count(p,low,high,comb)",
        "roots": "is_root(value) root_of(x) roots_of(p) compare_roots(r,s) compare_root(r,x) sign_at(q,r) floor_of(r) "
                 "near(r,bits) negative_root(r) shifted_root(r,x) scaled_root(r,x) inverse_root(r)",
        "boxes": "is_box(n,value) box_has(box,point) box_within(box,other) box_inside(box,other) box_middle(box) "
                 "box_widths(box) longest(box) halves(box,k) box_hull(box,other) widened(box) box_rounded(box,bits) "
                 "box_meeting(box,other) corners(box)",
        "bounds": "natural(p,box) centered(p,box) bounds(p,box) slopes(system,box)",
        "papers": "is_free(system,box,k) is_single(system,box,value) is_cover(system,box,value) "
                  "same_zero(system,box,A,other,B) free_index(system,box) krawczyk(system,box,A) "
                  "narrowed(system,box,A,bits) single_paper(system,box) cover_paper(system,box)",
        "trees": "check_tree(system,box,value) search(system,box,depth) told(box,tree) rest(box,tree) "
                 "different(system,pairs) zeros_within(system,box,depth) tree_counts(tree) tree_depth(tree)",
        "hunts": "Hunt restored(system,box,depth,text)",
        "paths": "is_family(n,value) check_tube(n,family,value) at_time(n,family,t) straight(n,start,goal) "
                 "krawczyk_over(n,family,span,box,A) zero_at(n,family,tube,t,bits) track(n,family,box,A,most) "
                 "joined(first,second) cut(tube,t) end_boxes(n,family,tube,bits)",
        "multiple": "dual_size(n,system,point,d) multiplicity(n,system,point,most) deflated(n,system,point) "
                    "regular_part(n,system,point) deflation(n,system,point,most)",
        "elimination": "resultant(n,p,q,k) check_elimination(n,p,q,k,value) elimination_paper(n,p,q,k) column_counts(p,q) "
                       "zero_count(p,q) zeros_above(p,q,x)",
        "sums": "sum_of_roots(r,s) product_of_roots(r,s)",
        "winding": "check_walk(system,box,value) walk(system,box,depth) winding(walk) least_zeros(system,box,depth)",
        "claims": "write_box(box) write_tree(tree) write_claim(system,box,tree) read_box(n,text) read_tree(n,text) "
                  "read_claim(text) judged(text)",
        "plane": "rational_roots(p) exchanged(p) is_fair(p,q) frame(p,q) plane_zeros(p,q,depth) rational_zeros(p,q) "
                 "counted_zeros(p,q)",
        "least": "check_least(p,box,value) least(p,box,gap,depth) least_between(p,paper)",
        "critical": "gradient(n,p) hessian(n,p) shape_over(p,box) critical_boxes(n,p,box,depth)",
        "signs": "marks(polynomials) samples(polynomials) sign_of_sample(p,sample) sign_table(polynomials) "
                 "meets(conditions,sample) cells_that_meet(conditions) solution(conditions)",
        "desk": "run_desk(text)",
    }
    methods = {
        ("hunts", "Hunt"): "__init__(self,system,box,depth) open_places(self) work(self,place) box_at(self,place) "
                           "is_done(self) tree(self) counts(self) text(self)",
    }

    def test_each_name_is_defined_in_its_file(self):
        for file, told in self.names.items():
            module = importlib.import_module("rootfast." + file)
            for call in told.split():
                name, _, arguments = call.rstrip(")").partition("(")
                found = getattr(module, name)
                self.assertEqual(found.__module__, "rootfast." + file)
                if arguments:
                    self.assertEqual(parameters(found), arguments.split(","))

    def test_each_method_is_defined_in_its_class(self):
        for (file, name), told in self.methods.items():
            found = getattr(importlib.import_module("rootfast." + file), name)
            for call in told.split():
                method, _, arguments = call.rstrip(")").partition("(")
                self.assertEqual(parameters(vars(found)[method]), arguments.split(","))


if __name__ == "__main__":
    unittest.main()
