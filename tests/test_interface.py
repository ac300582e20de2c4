import inspect
import unittest

from grooveway import errors, pages, rules

CLASSES = {
    "Rule": "(marks)",
    "Gap": "(marks, mark, least, most=None)",
    "Never": "(marks, word)",
    "Sum": "(marks, worths, low, high)",
    "Turn": "(marks, mark, every, at)",
    "Alike": "(marks, most)",
    "All": "(marks, rules)",
}
METHODS = {
    "begin": "(self)",
    "step": "(self, state, mark)",
    "broken_at": "(self, row)",
    "keeps": "(self, row)",
}
PAGES = {
    "rows_of": "(page)",
    "number_in": "(word)",
    "signed_in": "(word)",
    "read_rules": "(page)",
    "rule_row": "(rule)",
    "rules_page": "(rule)",
}


def told(thing):
    return str(inspect.signature(thing))


class InterfaceTest(unittest.TestCase):
    def test_refusals(self):
        for name in ("BadRow", "BadTable"):
            self.assertEqual(told(getattr(errors, name)), "(row)")

    def test_classes_of_rules(self):
        for name, arguments in CLASSES.items():
            self.assertEqual(told(getattr(rules, name)), arguments, name)
            if name != "Rule":
                self.assertEqual(getattr(rules, name).__bases__, (rules.Rule,))

    def test_methods_of_rules(self):
        for name in CLASSES:
            for method, arguments in METHODS.items():
                self.assertEqual(told(getattr(getattr(rules, name), method)), arguments, (name, method))
        self.assertEqual(told(rules.All.rules_told), "(self)")

    def test_functions_of_pages(self):
        for name, arguments in PAGES.items():
            self.assertEqual(told(getattr(pages, name)), arguments, name)


if __name__ == "__main__":
    unittest.main()
