import ast
import os
import unittest

import rules

HERE = os.path.dirname(os.path.abspath(__file__))
PACKAGE = os.path.join(os.path.dirname(HERE), "threadsround")


def texts():
    found = {}
    for name in sorted(os.listdir(PACKAGE)):
        if name != "__pycache__":
            with open(os.path.join(PACKAGE, name), encoding="ascii") as file:
                found[name] = file.read()
    return found


class LanguageTest(unittest.TestCase):
    def setUp(self):
        self.texts = texts()
        self.trees = {name: ast.parse(text) for name, text in self.texts.items()}
        self.modules = {f"threadsround.{name[:-3]}": rules.defined_names(tree) for name, tree in self.trees.items()}

    def test_files(self):
        self.assertIn("__init__.py", self.texts)
        self.assertLessEqual(len(self.texts), 100)
        for name in self.texts:
            self.assertRegex(name, r"^(__init__|[a-z][a-z0-9]*)\.py$")

    def test_rules_file_by_file(self):
        own = rules.method_names(self.trees.values())
        generators = rules.generator_names(self.trees.values())
        self.assertEqual(sorted(generators), ["hear_all", "layings_of", "through"])
        for name, text in self.texts.items():
            self.assertEqual(rules.faults_of(text, self.modules, own, generators), [], name)

    def test_what_is_changed_is_found(self):
        for text, many in (("xs[a] += xs[b]", 1), ("xs += xs[1:]", 1), ("xs[a] += ys[b]", 0), ("xs += list(xs)", 0), ("k += 1", 0),
                           ("box.xs[a] += box.xs[b]", 1), ("xs.extend(xs)", 1), ("xs.extend(list(xs))", 0), ("xs.update(ys)", 0)):
            self.assertEqual(len(list(rules.change_faults(ast.parse(text)))), many, text)

    def test_no_ring_of_imports(self):
        imports = {f"threadsround.{name[:-3]}": rules.imported_modules(tree) for name, tree in self.trees.items()}
        self.assertEqual(rules.rings_of_imports(imports), [])

    def test_no_name_is_a_method_and_an_attribute(self):
        self.assertEqual(rules.class_faults(self.trees.values()), [])

    def test_every_name_is_used(self):
        everything = "\n".join(self.texts.values())
        import interface
        listed = {name for names in interface.FUNCTIONS.values() for name in names}
        for names in self.modules.values():
            for name in names:
                many = everything.count(name)
                self.assertTrue(many > 1 or name in listed or name in interface.ALL_CLASSES, name)


if __name__ == "__main__":
    unittest.main()
