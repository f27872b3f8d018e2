import ast
import importlib
import inspect
import os
import unittest

import interface

PACKAGE = os.path.join(os.path.dirname(os.path.dirname(os.path.abspath(__file__))), "threadsround")


def tree_of(module):
    with open(os.path.join(PACKAGE, f"{module}.py"), encoding="ascii") as file:
        return ast.parse(file.read())


def written(node):
    return ast.unparse(node.args)


class InterfaceTest(unittest.TestCase):
    def test_functions_stand_in_their_files_with_their_parameters(self):
        for module, functions in interface.FUNCTIONS.items():
            defined = {node.name: node for node in tree_of(module).body if isinstance(node, ast.FunctionDef)}
            for name, parameters in functions.items():
                self.assertIn(name, defined, module)
                self.assertEqual(written(defined[name]), parameters, name)
                loaded = getattr(importlib.import_module(f"threadsround.{module}"), name)
                self.assertEqual(", ".join(inspect.signature(loaded).parameters), parameters)

    def test_classes_have_each_method_in_their_own_body(self):
        for module, classes in interface.CLASSES.items():
            bodies = {node.name: node for node in tree_of(module).body if isinstance(node, ast.ClassDef)}
            for name, methods in classes.items():
                defined = {node.name: node for node in bodies[name].body if isinstance(node, ast.FunctionDef)}
                for method, parameters in methods.items():
                    self.assertIn(method, defined, name)
                    kinds = [decorator.id for decorator in defined[method].decorator_list]
                    if parameters == "property":
                        self.assertEqual(kinds, ["property"], method)
                    else:
                        self.assertEqual(written(defined[method]), parameters, method)
                        self.assertEqual(kinds, ["classmethod"] if parameters.startswith("cls") else [], method)

    def test_errors_stand_in_their_file(self):
        defined = {node.name: node for node in tree_of("errors").body if isinstance(node, ast.ClassDef)}
        self.assertEqual(sorted(defined), sorted(interface.ERRORS))
        for name, (base, _) in interface.ERRORS.items():
            self.assertEqual([ast.unparse(b) for b in defined[name].bases], [base])


if __name__ == "__main__":
    unittest.main()
