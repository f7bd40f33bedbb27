"""The interface of the document: what stands in which file, under which names, and its examples."""

import doctest
import importlib
import inspect
import os
import unittest

import answerparts

# For each file its functions with their parameters, as the document writes them.
FUNCTIONS = {
    "runs": {"run": "(program, world, items, history, *, limit=200)"},
    "reaching": {
        "results": "(program, world)", "is_right": "(program, world)", "alike": "(one, other, world)",
        "least": "(program, world, result)", "way": "(program, world, result)", "goes_on": "(program, world, items)",
    },
    "mends": {"mended": "(program, paths, lists)", "fewest": "(program, world, wanted)"},
    "papers": {"paper": "(program, world, result)", "holds": "(program, world, result, rows)"},
    "notation": {
        "format_program": "(program)", "parse_program": "(text)", "format_history": "(history)",
        "parse_history": "(text)",
    },
    "desks": {"tried": "(desk, edits)"},
}
# For each class its properties, and its methods with their parameters.
CLASSES = {
    ("programs", "Program"): (("lists", "block", "kept"), {
        "__init__": "(self, lists, block, kept=())", "__getitem__": None, "__len__": None, "__eq__": None,
        "paths": "(self, word=None)", "with_statement": "(self, path, statement)",
    }),
    ("worlds", "World"): (("mode", "lost", "breaks", "fails", "late"), {
        "__init__": "(self, mode='each', *, lost=0, breaks=0, fails=None, late=False)", "__eq__": None, "__or__": None,
        "is_milder": "(self, other)",
    }),
    ("runs", "Outcome"): (("ending", "trace", "taken", "lists", "counts", "told"), {
        "__len__": None, "__eq__": None, "result": "(self, item)",
    }),
    ("desks", "Desk"): (("program", "world", "fresh"), {
        "__init__": "(self, program, world)", "__getitem__": None, "__setitem__": None, "__enter__": None,
        "__exit__": None, "keep": "(self, name)", "go_to": "(self, world)", "undo": "(self)", "redo": "(self)",
        "results": "(self)",
    }),
}

# As the document prints them.
EXAMPLES = {
    "papers": """
>>> from answerparts.papers import holds, paper
>>> from answerparts.programs import Program
>>> from answerparts.worlds import World
>>> rows = paper(Program(("a",), (("tell", "a", "done"),)), World(fails=0), (1, "done"))
>>> [rows[0], len(rows), holds(Program(("a",), (("tell", "a", "done"),)), World(fails=0), (1, "done"), rows)]
[((), (), (0, 0, 0), (), (None, 0, False, 0, False, 'done')), 4, True]
""",
    "notation": r"""
>>> from answerparts.notation import format_program
>>> from answerparts.programs import Program
>>> block = (("times", 2, (("send", "todo", "ok", "todo", ()),)), ("if", "todo", (("tell", "todo", "failed"),), ()), ("tell", "ok", "done"))
>>> format_program(Program(("todo", "ok"), block, ("ok",)))
'lists todo, ok kept ok\ntimes 2:\n  send todo to ok or todo:\n    pass\nif todo:\n  tell todo failed\nelse:\n  pass\ntell ok done\n'
""",
    "desks": """
>>> from answerparts.desks import Desk
>>> from answerparts.programs import Program
>>> from answerparts.worlds import World
>>> desk = Desk(Program(("todo", "ok"), (("send", "todo", "ok", "todo", ()), ("tell", "ok", "done"))), World(fails=0))
>>> first = desk.results()
>>> desk[(1,)] = ("tell", "ok", "failed")
>>> [first, desk.results(), desk.undo(), desk.results(), desk.fresh]
[[(1, 'done')], [(1, 'failed')], True, [(1, 'done')], 3]
""",
}


def module(name):
    return importlib.import_module("answerparts." + name)


def examples_of(text, name):
    """How many examples of a text there are, and how many of them fail."""
    test = doctest.DocTestParser().get_doctest(text, {}, name, None, 0)
    runner = doctest.DocTestRunner(verbose=False)
    runner.run(test)
    return len(test.examples), runner.failures


class Interface(unittest.TestCase):
    def test_functions_stand_in_their_files(self):
        for name, functions in FUNCTIONS.items():
            for word, parameters in functions.items():
                found = vars(module(name))[word]
                self.assertTrue(inspect.isfunction(found))
                self.assertEqual(found.__module__, "answerparts." + name)
                self.assertEqual(str(inspect.signature(found)), parameters, word)

    def test_classes_stand_in_their_files_and_methods_in_their_classes(self):
        for (name, word), (properties, methods) in CLASSES.items():
            found = vars(module(name))[word]
            self.assertTrue(inspect.isclass(found))
            self.assertEqual(found.__module__, "answerparts." + name)
            for attribute in properties:
                self.assertIsInstance(vars(found)[attribute], property, (word, attribute))
            for method, parameters in methods.items():
                self.assertTrue(inspect.isfunction(vars(found)[method]), (word, method))
                if parameters:
                    self.assertEqual(str(inspect.signature(vars(found)[method])), parameters, (word, method))

    def test_the_folder_of_the_package(self):
        names = os.listdir(os.path.dirname(answerparts.__file__))
        # Python makes the folder of what it compiled, unless it is told not to.
        self.assertEqual([name for name in names if not name.endswith(".py") and name != "__pycache__"], [])

    def test_the_examples_of_the_document(self):
        for name, text in EXAMPLES.items():
            many, failures = examples_of(text, name)
            self.assertEqual(failures, 0, name)
            self.assertGreater(many, 2)

    def test_the_examples_of_the_readme(self):
        with open(os.path.join(os.path.dirname(__file__), "..", "README.md"), encoding="utf-8") as readme:
            many, failures = examples_of(readme.read(), "README.md")
        self.assertEqual(failures, 0)
        self.assertGreater(many, 20)


if __name__ == "__main__":
    unittest.main()
