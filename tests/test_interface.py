"""The names, arguments and methods that the document's interface lists."""

import ast
import importlib
import inspect
import pathlib
import unittest

FOLDER = pathlib.Path(__file__).resolve().parent.parent / "provenames"
FUNCTIONS = {
    "names": {
        "is_name": "(labels)", "parse_name": "(text)", "format_name": "(name)",
        "lies_in": "(name, above)", "lies_below": "(name, above)", "shared": "(name, other)",
        "star": "(name)", "ancestors": "(name)",
    },
    "records": {"make_set": "(name, kind, ttl, values)"},
    "signatures": {
        "sign_set": "(signer, record_set, *, zone, edition, start, end)",
        "is_valid": "(notary, signature, record_set, time)",
    },
    "edition": {"publish": "(zone, *, number, heads, signers, extra, start, end)"},
    "lookup": {
        "outcome": "(edition, name, kind)", "gap_over": "(edition, name)",
        "evidence": "(edition, name, kind)",
    },
    "messages": {
        "write_question": "(zone, name, kind)", "read_question": "(octets)",
        "write_reply": "(reply)", "read_reply": "(octets)",
    },
    "rules": {
        "covers": "(zone, gap_set, name)", "clears": "(zone, gap_set, name)",
        "source": "(gap_set, name)", "follows": "(notary, anchors, time, facts, step)",
    },
    "check": {"check": "(notary, anchors, time, steps)"},
    "search": {
        "answers": "(notary, anchors, time, signed_sets, name, kind)",
        "unlinked": "(notary, anchors, time, signed_sets)",
    },
}
CLASSES = {
    "notary": {
        "Notary": {
            "__init__": "(self)", "new_signer": "(self)", "holds": "(self, key, content, number)",
            "__len__": "(self)",
        },
        "Signer": {"sign": "(self, content)"},
    },
    "zone": {
        "Zone": {
            "__init__": "(self, apex, quiet)", "put": "(self, name, kind, ttl, values)",
            "drop": "(self, name, kind)", "at": "(self, name, kind)", "cuts": "(self)",
            "owners": "(self)", "__contains__": "(self, x)", "__iter__": "(self)",
        },
    },
    "edition": {
        "Edition": {
            "is_running": "(self, time)", "at": "(self, name, kind)", "cuts": "(self)",
            "owners": "(self)", "__iter__": "(self)",
        },
    },
    "server": {
        "Server": {
            "__init__": "(self)", "hold": "(self, edition)", "release": "(self, apex)",
            "reply": "(self, zone, name, kind)", "answer": "(self, octets)",
        },
    },
    "network": {
        "Network": {
            "__init__": "(self)", "attach": "(self, address, server)", "bend": "(self, bend)",
            "send": "(self, address, octets)", "__len__": "(self)",
        },
    },
    "received": {
        "Received": {
            "__init__": "(self)", "take": "(self, signed_set, time)", "live": "(self, time)",
            "__len__": "(self)",
        },
    },
    "resolver": {
        "Resolver": {
            "__init__": "(self, notary, network, *, anchors, roots)",
            "resolve": "(self, name, kind, time)", "live": "(self, time)",
        },
        "Answer": {},
    },
    "desk": {
        "Desk": {
            "__init__": "(self, anchors)", "accept": "(self, edition)", "running": "(self, zone, time)",
        },
    },
}
PROPERTIES = {("notary", "Signer"): "key", ("edition", "Edition"): "signed"}


def defined_in(module):
    """The names of the functions and classes that the file itself defines."""
    tree = ast.parse((FOLDER / f"{module}.py").read_text(encoding="utf-8"))
    return {node.name for node in tree.body if isinstance(node, (ast.FunctionDef, ast.ClassDef))}


class InterfaceTest(unittest.TestCase):
    def found(self, module, name):
        self.assertIn(name, defined_in(module))
        found = getattr(importlib.import_module(f"provenames.{module}"), name)
        self.assertEqual(found.__module__, f"provenames.{module}")
        return found

    def test_functions(self):
        for module, functions in FUNCTIONS.items():
            for name, signature in functions.items():
                with self.subTest(module=module, name=name):
                    self.assertEqual(str(inspect.signature(self.found(module, name))), signature)

    def test_methods_stand_in_the_class_itself(self):
        for module, classes in CLASSES.items():
            for name, methods in classes.items():
                own = vars(self.found(module, name))
                for method, signature in methods.items():
                    with self.subTest(module=module, name=name, method=method):
                        self.assertEqual(str(inspect.signature(own[method])), signature)

    def test_properties_stand_in_the_class_itself(self):
        for (module, name), attribute in PROPERTIES.items():
            with self.subTest(module=module, name=name):
                self.assertIsInstance(vars(self.found(module, name))[attribute], property)


if __name__ == "__main__":
    unittest.main()
