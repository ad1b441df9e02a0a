import ast
import unittest
import warnings

import language


class LanguageTest(unittest.TestCase):

    def test_the_package_keeps_to_the_subset(self):
        self.assertEqual(language.all_faults(), [])

    def test_python_gives_no_warning(self):
        with warnings.catch_warnings():
            warnings.simplefilter('error')
            for name in language.files():
                compile(language.text_of(name), name, 'exec')

    def test_each_file_and_function_has_a_docstring(self):
        for name, tree in language.trees().items():
            self.assertIsNotNone(ast.get_docstring(tree), name)
            for node in language.functions_in(tree):
                if not node.name.startswith('__') and not language.is_setter(node):
                    self.assertIsNotNone(ast.get_docstring(node), f'{name}: {node.name}')


if __name__ == '__main__':
    unittest.main()
