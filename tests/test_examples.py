"""The examples of the document, one file for each module, in its order.

An example is a line behind `>>>` and, where it is an expression, the line with its value
or `raises` and the error. Names are used as earlier examples made them last; those of
modules whose own examples come later are there, too.
"""

import importlib
import inspect
import os
import unittest

from nodice import errors
from nodice.errors import HandError

FOLDER = os.path.join(os.path.dirname(__file__), "examples")


def examples_in(path):
    told = []
    with open(path, encoding="ascii") as file:
        for row in file.read().splitlines():
            if row.startswith(">>> "):
                told.append([row[4:], None])
            else:
                told[-1][1] = row
    return told


def fields_of(error):
    return {name: value for name, value in vars(error).items()}


def own_names(file):
    """The functions and classes of the module whose examples a file has."""
    module = importlib.import_module("nodice." + file[3:-4])
    found = {}
    for name, value in vars(module).items():
        if inspect.isfunction(value) or inspect.isclass(value):
            if value.__module__ == module.__name__:
                found[name] = value
    return found


class Examples(unittest.TestCase):
    def test_all(self):
        names = {}
        files = sorted(os.listdir(FOLDER))
        for file in files:
            names.update(own_names(file))
        for file in files:
            names.update(own_names(file))
            examples = examples_in(os.path.join(FOLDER, file))
            self.assertGreater(len(examples), 0, file)
            for code, answer in examples:
                with self.subTest(file=file, code=code):
                    self.run_one(names, code, answer)

    def run_one(self, names, code, answer):
        if answer is None:
            exec(code, names)
        elif answer.startswith("raises "):
            wanted = eval(answer[len("raises "):], vars(errors).copy())
            with self.assertRaises(HandError) as caught:
                eval(code, names)
            self.assertIs(caught.exception.__class__, wanted.__class__)
            self.assertEqual(fields_of(caught.exception), fields_of(wanted))
        else:
            value = eval(code, names)
            self.assertEqual(repr(value), answer)
