"""The form of the program: its files, its interface and its subset of Python."""

import ast
import os
import unittest

FOLDER = os.path.join(os.path.dirname(os.path.dirname(os.path.abspath(__file__))), "everydecider")
LIBRARY = {"math": {"gcd", "lcm", "isqrt", "comb", "perm", "factorial"},
           "heapq": {"heappush", "heappop", "heapify", "heapreplace", "heappushpop"},
           "itertools": {"product", "combinations", "permutations"}}
NOT_ALLOWED = (ast.Div, ast.Global, ast.AsyncFunctionDef, ast.Await, ast.Import)
TAKE_LISTS = {"any", "all", "sum", "min", "max", "sorted"}
INTERFACE = {
    "errors.py": "DeciderError BadRatio BadText BadUnit BadSize BadRow Mismatch BadPayoffs BadPrior BadRule "
                 "BadGroups BadWeights BadTimes TooMany NoSignal NoState NoAct NotTwoStates BadCorners BadProgram "
                 "BadName NameTaken UnknownName NothingToUndo NothingToRedo BadLine",
    "ratios.py": "ratio plus minus times over compare total common lowest ratio_text read_ratio",
    "experiments.py": "Experiment probability posterior uninformative revealing two_signals",
    "garblings.py": "Garbling garbled unchanged merging renaming is_sharp",
    "decisions.py": "Decision value gain best_acts best_rule price shifted scaled with_prior without_act regrets",
    "linear.py": "solve is_solved least is_least",
    "comparing.py": "garbling_from decision_against never_worse order shows_never_worse shows_worse best_of "
                    "groups_alike",
    "standard.py": "standard alike fewest_signals to_standard split without_empty",
    "fewacts.py": "partings never_worse_for act_against merging_paper shows_for acts_needed order_for best_for",
    "polygons.py": "corners from_corners height_at covers meet join",
    "together.py": "both again one_of blended at_states both_garblings side_by_side",
    "bends.py": "value_at bends act_stretch worse_chance groups_for groups_for_all prior_for mixture_above",
    "twoacts.py": "never_worse_for_two two_act_against share_paper shows_shares",
    "bench.py": "Bench",
    "notation.py": "text_of read_experiment read_garbling read_decision read_bench report",
}
METHODS = {
    ("experiments.py", "Experiment"): "__init__ rows __getitem__ __len__ __eq__",
    ("garblings.py", "Garbling"): "__init__ rows __getitem__ __eq__ __mul__",
    ("decisions.py", "Decision"): "__init__ acts payoffs prior __getitem__ __eq__",
    ("bench.py", "Bench"): "__init__ undos redos names __len__ __contains__ __getitem__ put replace garble combine rename "
                           "drop undo redo order paper leaders table trial tried",
}


def files():
    return [name for name in sorted(os.listdir(FOLDER)) if name != "__pycache__"]


def text_of(name):
    with open(os.path.join(FOLDER, name), encoding="utf-8") as file:
        return file.read()


def trees():
    return {name: ast.parse(text_of(name)) for name in files()}


def definitions(tree):
    return {node.name: node for node in tree.body if isinstance(node, (ast.FunctionDef, ast.ClassDef))}


class Form(unittest.TestCase):

    def test_files(self):
        self.assertIn("__init__.py", files())
        for name in files():
            self.assertRegex(name, r"\A[a-z0-9_]+\.py\Z")
            text = text_of(name)
            self.assertLessEqual(text.count("\n"), 399, name)
            self.assertFalse([sign for sign in text if sign != "\n" and not " " <= sign <= "~"], name)
            self.assertFalse([line for line in text.split("\n") if len(line) > 120], name)

    def test_functions_are_short(self):
        for name, tree in trees().items():
            for node in ast.walk(tree):
                if isinstance(node, ast.FunctionDef):
                    self.assertLessEqual(node.end_lineno - node.lineno + 1, 40, (name, node.name))

    def test_imports_name_the_file_that_defines(self):
        for name, tree in trees().items():
            for node in ast.walk(tree):
                if isinstance(node, ast.ImportFrom):
                    self.assertEqual(node.level, 0, name)
                    imported = {alias.name for alias in node.names}
                    if node.module in LIBRARY:
                        self.assertLessEqual(imported, LIBRARY[node.module], name)
                    else:
                        file = node.module.removeprefix("everydecider.") + ".py"
                        self.assertLessEqual(imported, set(definitions(ast.parse(text_of(file)))), name)

    def test_no_two_files_import_from_each_other(self):
        needed = {}
        for name, tree in trees().items():
            modules = [node.module for node in ast.walk(tree) if isinstance(node, ast.ImportFrom)]
            needed[name] = [module.removeprefix("everydecider.") + ".py" for module in modules if "." in module]
        while needed:
            ready = [name for name, others in needed.items() if not any(other in needed for other in others)]
            self.assertTrue(ready, needed)
            for name in ready:
                del needed[name]

    def test_statements_and_expressions(self):
        for name, tree in trees().items():
            for node in ast.walk(tree):
                place = (name, getattr(node, "lineno", 0))
                self.assertNotIsInstance(node, NOT_ALLOWED, place)
                if isinstance(node, ast.Constant):
                    self.assertNotIsInstance(node.value, (float, complex), place)
                    self.assertNotIn("%", str(node.value), place)
                if isinstance(node, ast.Call) and isinstance(node.func, ast.Name):
                    if node.func.id in TAKE_LISTS:
                        self.assertFalse([at for at in node.args if isinstance(at, ast.GeneratorExp)], place)

    def test_interface_is_defined_in_its_files(self):
        for name, words in INTERFACE.items():
            defined = definitions(ast.parse(text_of(name)))
            for word in words.split():
                self.assertIn(word, defined, name)
        for (name, word), methods in METHODS.items():
            body = definitions(ast.parse(text_of(name)))[word].body
            defined = [node.name for node in body if isinstance(node, ast.FunctionDef)]
            for method in methods.split():
                self.assertIn(method, defined, word)


if __name__ == "__main__":
    unittest.main()
