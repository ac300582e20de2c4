import importlib
import inspect
import unittest

from grooveway import errors, rules

CLASSES = {
    "Rule": "(marks)",
    "Gap": "(marks, mark, least, most=None)",
    "Never": "(marks, word)",
    "Sum": "(marks, worths, low, high)",
    "Turn": "(marks, mark, every, at)",
    "Alike": "(marks, most)",
    "All": "(marks, rules)",
}
METHODS = {
    "begin": "(self)",
    "step": "(self, state, mark)",
    "broken_at": "(self, row)",
    "keeps": "(self, row)",
}
# By the module: what it holds, and the arguments it is called with.
MODULES = {
    "pages": {
        "rows_of": "(page)",
        "number_in": "(word)",
        "signed_in": "(word)",
        "read_rules": "(page)",
        "rule_row": "(rule)",
        "rules_page": "(rule)",
    },
    "rooms": {"Rooms": "(marks, ways)", "rooms_of": "(rule, most=60)", "living": "(rooms)"},
    "least": {"least": "(rooms)", "parting": "(rooms, one, other)", "memory": "(rooms)"},
    "counts": {
        "count": "(rooms, room, length)",
        "row_at": "(rooms, room, length, number)",
        "number_of": "(rooms, room, row)",
    },
    "blocks": {"blocks_from": "(rooms, room, q)", "block_table": "(rooms, q)"},
    "solve": {"reduced": "(a, b)", "solved": "(table, right)"},
    "weights": {
        "press": "(table, n)",
        "most_signs": "(table)",
        "bears": "(table, n, weights)",
        "shrunk": "(table, n, weights)",
        "rounds": "(table, n, weights)",
        "verdict": "(table, n, most=16)",
    },
    "parts": {
        "tied_parts": "(table, among)",
        "closed_part": "(table, weights)",
        "lead_to": "(rooms, part)",
    },
    "web": {
        "Web": "(homes, weights, ways)",
        "web_of": "(rooms, q, weights, part)",
        "web_bears": "(web, n)",
    },
    "split": {
        "choice": "(web, n)",
        "split": "(web, n, place, picks)",
        "evened": "(web)",
        "finished": "(web, n)",
    },
    "table": {
        "Table": "(lead, first, ahead, homes, ways)",
        "look_of": "(homes, ways)",
        "table_of": "(web, n, lead, home)",
    },
    "writing": {"written": "(table, signs)", "read": "(table, row)"},
    "windows": {"sign_at": "(rooms, table, past, blocks)", "read_windows": "(rooms, table, row)"},
    "judge": {"judged": "(rooms, table)"},
    "tables": {"table_text": "(table)", "read_table": "(text)"},
    "whole": {"answered": "(page, n, q, most=16)", "looked": "(page, n, q, text, most=16)"},
}
METHODS_OF_OTHERS = {
    ("rooms", "Rooms"): {"many": "(self)", "led": "(self, room, mark)", "walked": "(self, room, row)"},
    ("web", "Web"): {"many": "(self)"},
    ("table", "Table"): {"signs": "(self)", "block_length": "(self)"},
}


def told(thing):
    return str(inspect.signature(thing))


class InterfaceTest(unittest.TestCase):
    def test_refusals(self):
        for name in ("BadRow", "BadTable"):
            self.assertEqual(told(getattr(errors, name)), "(row)")

    def test_classes_of_rules(self):
        for name, arguments in CLASSES.items():
            self.assertEqual(told(getattr(rules, name)), arguments, name)
            if name != "Rule":
                self.assertEqual(getattr(rules, name).__bases__, (rules.Rule,))

    def test_methods_of_rules(self):
        for name in CLASSES:
            for method, arguments in METHODS.items():
                self.assertEqual(told(getattr(getattr(rules, name), method)), arguments, (name, method))
        self.assertEqual(told(rules.All.rules_told), "(self)")

    def test_what_the_other_modules_hold(self):
        for module, names in MODULES.items():
            for name, arguments in names.items():
                thing = getattr(importlib.import_module("grooveway." + module), name)
                self.assertEqual(told(thing), arguments, (module, name))

    def test_methods_of_other_classes(self):
        for (module, name), methods in METHODS_OF_OTHERS.items():
            kind = getattr(importlib.import_module("grooveway." + module), name)
            for method, arguments in methods.items():
                self.assertEqual(told(getattr(kind, method)), arguments, (name, method))


if __name__ == "__main__":
    unittest.main()
