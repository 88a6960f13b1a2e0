"""The package keeps to its small subset of Python, as far as a short look at its trees can tell, and to its interface."""

import ast
import importlib
import inspect
import pathlib
import re
import unittest

PACKAGE = pathlib.Path(__file__).resolve().parent.parent / 'rulesmerged'

BUILTINS = set('''len range enumerate zip min max sum abs sorted reversed int str bool list tuple dict set isinstance ord
    repr any all divmod super property ValueError type'''.split())

LIBRARY = {'itertools': ['combinations', 'product']}

TERMS = ['schema', 'book', 'ways', 'lets']

MODULES = {
    'errors': {'ApartError': ['text'], 'ParseError': ['line']},
    'schemas': {'is_name': ['thing'], 'Schema': ['tables']},
    'rows': {'are_rows': ['schema', 'thing'], 'rows_at': ['schema', 'rows', 'table', 'column', 'value'],
             'beside': ['schema', 'rows', 'others']},
    'conditions': {'is_condition': ['schema', 'table', 'thing'], 'depth': ['condition'], 'has_parts': ['table', 'condition'],
                   'meets': ['schema', 'rows', 'table', 'index', 'condition']},
    'texts': {'format_condition': ['condition'], 'format_book': ['book'], 'format_schema': ['schema'],
              'parse_condition': ['schema', 'table', 'text'], 'parse_book': ['schema', 'text'], 'parse_schema': ['text']},
    'books': {'is_rule': ['schema', 'thing'], 'is_book': ['schema', 'thing'], 'broken': ['schema', 'book', 'rows'],
              'keeps': ['schema', 'book', 'rows']},
    'copies': {'is_copy': ['schema', 'base', 'thing'], 'copy_rows': ['schema', 'base', 'copy'],
               'changes_of': ['schema', 'base', 'copy'], 'unchanged': ['schema', 'base'], 'are_kinds': ['schema', 'thing']},
    'merges': {'are_ways': ['schema', 'thing'], 'merged': ['schema', 'ways', 'base', 'copies'],
               'fewest_breaking': ['schema', 'book', 'ways', 'base', 'copies']},
    'looks': {'looks': ['schema', 'book'], 'own_looks': ['schema', 'book', 'table'],
              'looks_into': ['schema', 'book', 'table', 'column'], 'looks_through': ['schema', 'book', 'kind']},
    'histories': {'histories': TERMS + ['table'], 'is_history': TERMS + ['thing'], 'is_meeting': ['schema', 'book', 'thing'],
                  'gives': TERMS + ['history', 'index', 'version'], 'fits': TERMS + ['history', 'column', 'meeting'],
                  'is_case': TERMS + ['base', 'copies'], 'history_on': TERMS + ['base', 'copies', 'row']},
    'left': {'rounds_of_histories': TERMS, 'histories_left': TERMS + ['table'], 'case_with': TERMS + ['history']},
    'papers': {'is_paper': TERMS + ['thing'], 'paper': TERMS + ['history']},
    'kept': {'is_kept': TERMS, 'kept_rules': TERMS, 'breach': TERMS + ['rule']},
    'held': {'is_enough': ['schema', 'book', 'ways', 'kinds', 'held'], 'least_held': ['schema', 'book', 'ways', 'kinds'],
             'greatest_idle': ['schema', 'book', 'ways', 'kinds']},
    'ways': {'all_ways': ['schema'], 'good_ways': ['schema', 'book', 'kinds']},
    'meeting': {'always': TERMS + ['table', 'condition'], 'case_against': TERMS + ['table', 'condition']},
    'needed': {'least_rules': TERMS + ['table', 'condition'], 'greatest_spoilers': TERMS + ['table', 'condition']},
    'mending': {'is_script': ['schema', 'thing'], 'done': ['schema', 'rows', 'script'], 'does_mend': TERMS + ['script'],
                'case_unmended': TERMS + ['script']},
    'stores': {'Store': ['schema', 'book', 'ways', 'kinds']},
    'shell': {'Shell': []},
    'free': {'is_free': ['schema', 'book', 'ways', 'kinds'], 'greatest_free': ['schema', 'book', 'ways'],
             'least_bad': ['schema', 'book', 'ways']},
}

CLASSES = {
    'Schema': {'tables': '', 'changes': '', 'columns': 'table', 'flags': 'table', 'kind_of': 'table column', 'places': 'kind', '__eq__': 'other'},
    'Store': {'begin': 'name', 'put': 'name table values flags', 'drop': 'name table index', 'turn': 'name table index flag',
              'rows': 'name', 'done_in': 'name', 'merge': 'names', 'is_safe': '', 'undo': '', 'copy': '', '__len__': '', 'base': '',
              'names': ''},
    'Shell': {'run': 'line'},
}

BARRED = '''type typing enum Enum Flag IntFlag Generic Protocol ABC namedtuple TypedDict mro elements open input law register'''

METHODS = set('''append clear copy count endswith extend find get index insert isalnum isalpha isdigit islower isspace isupper
    items join keys ljust lower lstrip partition pop remove replace reverse rfind rjust rpartition rsplit rstrip setdefault
    split splitlines startswith strip update upper values zfill bit_length isascii __init__'''.split())


class LanguageTest(unittest.TestCase):
    def setUp(self):
        self.files = sorted(PACKAGE.glob('*.py'))
        self.trees = {path.name: ast.parse(path.read_text()) for path in self.files}

    def nodes(self, *kinds):
        return [(name, node) for name, tree in self.trees.items() for node in ast.walk(tree) if isinstance(node, kinds)]

    def test_files_lines_and_characters(self):
        found = [path for path in PACKAGE.iterdir() if path.name != '__pycache__']
        self.assertEqual(sorted(found), self.files)
        for path in self.files:
            text = path.read_text()
            self.assertIsNotNone(re.fullmatch('[ -~\n]*', text), path.name)
            lines = text.split('\n')
            self.assertLessEqual(len(lines), 400, path.name)
            self.assertLessEqual(max([len(line) for line in lines]), 120, path.name)

    def test_functions_are_short(self):
        for name, node in self.nodes(ast.FunctionDef):
            self.assertLessEqual(node.end_lineno - node.lineno + 1, 40, (name, node.name))
            told = [each.id for each in node.decorator_list]
            self.assertIn(told, ([], ['property']), (name, node.name))

    def test_imports_name_the_defining_file_and_go_one_way(self):
        reached = {}
        for name, node in self.nodes(ast.Import, ast.ImportFrom):
            self.assertIsInstance(node, ast.ImportFrom, name)
            if node.module in LIBRARY:
                self.assertTrue(all(each.name in LIBRARY[node.module] and not each.asname for each in node.names), name)
                continue
            self.assertEqual([node.level, node.module.partition('.')[0]], [0, 'rulesmerged'], name)
            other = node.module.partition('.')[2] + '.py'
            bound = []
            for part in self.trees[other].body:
                bound += [part.name] if hasattr(part, 'name') else []
                bound += [each.id for each in getattr(part, 'targets', [])]
            for alias in node.names:
                self.assertIn(alias.name, bound, name)
                self.assertIsNone(alias.asname, name)
            reached.setdefault(name, set()).add(other)
        while reached:
            free = [name for name in reached if not reached[name] & set(reached)]
            self.assertTrue(free, 'files import from each other')
            for name in free:
                del reached[name]

    def test_module_level_holds_definitions_and_plain_values(self):
        for name, tree in self.trees.items():
            for node in tree.body:
                docstring = isinstance(node, ast.Expr) and isinstance(node.value, ast.Constant)
                plain = (ast.ImportFrom, ast.FunctionDef, ast.ClassDef, ast.Assign)
                self.assertTrue(docstring or isinstance(node, plain), (name, node.lineno))
                if isinstance(node, ast.Assign):
                    functions = {each.name for each in tree.body if isinstance(each, ast.FunctionDef) and each.lineno < node.lineno}
                    for part in ast.walk(node.value):
                        self.assertTrue(isinstance(part, (ast.Constant, ast.Tuple, ast.List, ast.Dict, ast.Load))
                                        or isinstance(part, ast.Name) and part.id in functions, (name, node.lineno))

    def test_no_barred_statements_and_expressions(self):
        barred = (ast.GeneratorExp, ast.Lambda, ast.Global, ast.AsyncFunctionDef, ast.Await, ast.Div, ast.Yield, ast.Mod)
        self.assertEqual([(name, node.lineno) for name, node in self.nodes(*barred)], [])
        for name, node in self.nodes(ast.Constant):
            self.assertNotIsInstance(node.value, float, name)

    def test_names(self):
        for name, tree in self.trees.items():
            own = {node.id for node in ast.walk(tree) if isinstance(node, ast.Name) and isinstance(node.ctx, ast.Store)}
            own |= {node.name for node in ast.walk(tree) if isinstance(node, (ast.FunctionDef, ast.ClassDef))}
            own |= {alias.name for node in tree.body if isinstance(node, ast.ImportFrom) for alias in node.names}
            own |= {node.arg for node in ast.walk(tree) if isinstance(node, ast.arg)}
            used = {node.id for node in ast.walk(tree) if isinstance(node, ast.Name)}
            self.assertEqual(sorted(used - own - BUILTINS), [], name)
            self.assertEqual(sorted(own & (BUILTINS | set(BARRED.split()))), [], name)

    def test_methods(self):
        own = {node.name for _, node in self.nodes(ast.FunctionDef)}
        for name, node in self.nodes(ast.Call):
            if isinstance(node.func, ast.Attribute):
                self.assertIn(node.func.attr, METHODS | own, (name, node.lineno))

    def test_interface(self):
        for module, names in MODULES.items():
            file = importlib.import_module(f'rulesmerged.{module}')
            defined = [node.name for node in self.trees[f'{module}.py'].body if hasattr(node, 'name')]
            for name, parameters in names.items():
                self.assertIn(name, defined)
                if name != 'ApartError':
                    self.assertEqual(list(inspect.signature(getattr(file, name)).parameters), parameters, name)

    def test_interface_of_classes(self):
        for name, expected in CLASSES.items():
            own = next(node for _, node in self.nodes(ast.ClassDef) if node.name == name)
            methods = {node.name: [each.arg for each in node.args.args] for node in own.body if hasattr(node, 'name')}
            told = {method: ' '.join(methods.get(method, ['none'])) for method in expected}
            self.assertEqual(told, {method: ' '.join(['self'] + parameters.split()) for method, parameters in expected.items()})


if __name__ == '__main__':
    unittest.main()
