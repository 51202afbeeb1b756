"""The names, the files and the parameters that the interface of DOC.md lists."""

import inspect
import unittest

from keysthrough import books, errors, keys, readings, stores, texts

FUNCTIONS = {
    books: {"shown": "book question"},
    stores: {"filled": "book rows"},
    keys: {
        "is_key": "book question columns",
        "counter": "book question columns",
        "least_keys": "book question",
        "doubles": "book question",
        "can_answer": "book question number",
        "settles": "book question columns column",
        "counter_settles": "book question columns column",
        "closure": "book question columns",
        "alike_in_keys": "book one other",
        "fewest_rules": "book question columns offered",
    },
    texts: {"show_book": "book", "show_question": "question"},
    readings: {"read_book": "text", "read_question": "text"},
}
METHODS = {
    books.Book: {
        "__init__": "self tables rules",
        "__getitem__": "self name",
        "__len__": "self",
        "__eq__": "self other",
        "with_rules": "self more",
        "without": "self index",
    },
    stores.Store: {
        "__init__": "self book",
        "__call__": "self question",
        "__len__": "self",
        "__eq__": "self other",
        "put": "self table row",
        "take": "self table index",
        "rows": "self table",
        "undo": "self",
    },
}


class InterfaceTest(unittest.TestCase):
    def test_functions(self):
        for module, functions in FUNCTIONS.items():
            for name, told in functions.items():
                function = getattr(module, name)
                self.assertEqual(function.__module__, module.__name__)
                self.assertEqual(list(inspect.signature(function).parameters), told.split())

    def test_methods(self):
        for one, methods in METHODS.items():
            for name, told in methods.items():
                self.assertIn(name, vars(one))
                if name != "__eq__":
                    self.assertEqual(list(inspect.signature(vars(one)[name]).parameters), told.split())
        for name in ("tables", "rules"):
            self.assertIsInstance(vars(books.Book)[name], property)

    def test_errors(self):
        for error in errors.KeyTellError.__subclasses__():
            self.assertEqual(error.__module__, "keysthrough.errors")


if __name__ == "__main__":
    unittest.main()
