"""The interface: names, arguments and defaults as the document lists them."""

import importlib
import inspect
import unittest

FUNCTIONS = {
    "charts": {
        "is_chart": "(thing)", "is_way": "(chart, starts, goals, thing)", "is_bar": "(chart, starts, goals, thing)",
        "paper": "(chart, starts, goals)", "rounds": "(chart)", "is_ring": "(chart, thing)", "are_ranks": "(chart, thing)",
    },
    "graphs": {
        "is_graph": "(thing)", "boxes_in": "(graph)", "depth_of": "(graph)", "grown": "(graph)",
        "with_number": "(graph, b, k, *, number)", "with_tie": "(graph, b, k, *, to)",
        "with_graph": "(graph, b, k, *, other)", "sort_at": "(graph, b, k)", "number_at": "(graph, b, k)",
        "graph_at": "(graph, b, k)",
    },
    "nets": {"is_net": "(thing)"},
    "reading": {"outcome": "(net, *, most=400)"},
    "code": {"is_code": "(net, thing)", "is_own": "(net, code)", "flat": "(net)"},
    "moves": {
        "case_of": "(rows, row)", "paper_of": "(rows, row)", "unsafe": "(rows)", "must_copy": "(rows)",
        "least": "(net, code=None)", "is_safe": "(net, code)",
    },
    "weavings": {
        "is_full": "(net, weaving)", "is_whole": "(net, weaving)", "exchanges": "(net, one, other)",
        "leads": "(net, one, other, thing)",
    },
    "waits": {"waiting_chart": "(net)", "rounds_of": "(net)", "knot": "(run)"},
    "texts": {"graph_text": "(graph)", "net_text": "(net)", "read_graph": "(text)", "read_net": "(text)"},
}
OF_A_RUN = {
    "step": "(self, actor)", "weave": "(self, weaving)", "at": "(self, actor)", "waits": "(self, actor)",
    "told": "(self, actor)", "holds": "(self, actor, name)", "channel": "(self, number)", "is_still": "(self)",
}
CLASSES = {
    ("reading", "Reading"): {"__init__": "(self, net)", **OF_A_RUN},
    ("machine", "Machine"): {
        "__init__": "(self, net, *, code=None)", **OF_A_RUN, "address": "(self, actor, name)", "heap": "(self, actor)",
        "boxes": "(self, address)", "owner": "(self, address)", "copied": "(self)", "steps": "(self)", "back": "(self)",
        "trial": "(self, weaving)", "heap_case": "(self, actor)", "paper": "(self, actor, address)",
        "collect": "(self, actor)", "apart": "(self)", "is_apart": "(self, thing)",
    },
    ("desk", "Desk"): {"__init__": "(self, net=None)", "say": "(self, line)"},
    ("errors", "NoText"): {"__init__": "(self, row)"},
    ("errors", "Unsafe"): {"__init__": "(self, actor, row, way)"},
}


def module(name):
    return importlib.import_module(f"giveway.{name}")


class TestInterface(unittest.TestCase):
    def test_functions(self):
        for name, functions in FUNCTIONS.items():
            for word, wanted in functions.items():
                asked = getattr(module(name), word)
                self.assertEqual(str(inspect.signature(asked)), wanted, word)
                self.assertEqual(asked.__module__, f"giveway.{name}", word)

    def test_methods_stand_in_the_class_itself(self):
        for (name, word), methods in CLASSES.items():
            own = vars(getattr(module(name), word))
            for method, wanted in methods.items():
                self.assertIn(method, own, word)
                self.assertEqual(str(inspect.signature(own[method])), wanted, method)


if __name__ == "__main__":
    unittest.main()
