"""The interface: names, arguments and defaults as the document lists them."""

import importlib
import inspect
import unittest

FUNCTIONS = {
    "reading": {"outcome": "(net, *, most=400)"},
    "code": {"is_code": "(net, thing)", "is_own": "(net, code)", "flat": "(net)"},
    "moves": {
        "case_of": "(rows, row)", "paper_of": "(rows, row)", "unsafe": "(rows)", "must_copy": "(rows)",
        "least": "(net, code=None)", "is_safe": "(net, code)",
    },
}
OF_A_RUN = {
    "step": "(self, actor)", "weave": "(self, weaving)", "at": "(self, actor)", "waits": "(self, actor)",
    "told": "(self, actor)", "holds": "(self, actor, name)", "channel": "(self, number)", "is_still": "(self)",
}
CLASSES = {
    ("reading", "Reading"): {"__init__": "(self, net)", **OF_A_RUN},
    ("machine", "Machine"): {
        "__init__": "(self, net, *, code=None)", **OF_A_RUN, "address": "(self, actor, name)", "heap": "(self, actor)",
        "boxes": "(self, address)", "owner": "(self, address)", "copied": "(self)", "steps": "(self)", "back": "(self)",
        "trial": "(self, weaving)", "heap_case": "(self, actor)", "paper": "(self, actor, address)",
        "collect": "(self, actor)", "apart": "(self)", "is_apart": "(self, thing)",
    },
}


def module(name):
    return importlib.import_module(f"giveway.{name}")


class TestInterface(unittest.TestCase):
    def test_functions(self):
        for name, functions in FUNCTIONS.items():
            for word, wanted in functions.items():
                self.assertEqual(str(inspect.signature(getattr(module(name), word))), wanted, word)

    def test_methods_stand_in_the_class_itself(self):
        for (name, word), methods in CLASSES.items():
            own = vars(getattr(module(name), word))
            for method, wanted in methods.items():
                self.assertIn(method, own, word)
                self.assertEqual(str(inspect.signature(own[method])), wanted, method)


if __name__ == "__main__":
    unittest.main()
