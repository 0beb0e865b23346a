"""The names, places and parameters that the document's interface lists."""

import importlib
import inspect
import unittest

FUNCTIONS = {
    "draws": {
        "mean": "draw", "capped": "draw number", "excess": "draw number", "chance_above": "draw number",
        "chance_of": "draw number", "summed": "draw other", "greatest_of": "draws", "mixed": "draws chances",
        "moved": "draw number", "scaled": "draw number", "draw_text": "draw", "draw_in": "text",
    },
    "orders": {
        "never_less": "draw other", "cautious": "draw other", "bold": "draw other", "less_at": "draw other",
        "cautious_at": "draw other", "bold_at": "draw other", "lift": "draw other", "spread": "draw other",
        "sinking": "draw other",
    },
    "stops": {
        "worths_from": "row rest", "bars": "row rest", "should_take": "row rest index number",
        "bar_worth": "row rest bar", "prophet": "row rest", "half_bar": "row", "best_orders": "row rest",
        "recall_worth": "row rest price", "picks": "row times",
    },
    "looks": {
        "strike": "box", "capped_draw": "box", "company_worth": "company floor", "best_order": "company",
        "worth_in": "company order floor", "box_gain": "company floor index", "opened_chance": "company floor index",
        "paid_mean": "company floor", "better_box": "box other", "floor_against": "box other",
    },
    "webs": {"greatest_trap": "rows"},
    "worths": {
        "worths": "web", "worth": "web place", "best_arrows": "web place", "plan": "web side", "held": "web side plan",
        "within": "web moves rest", "turned": "web",
    },
    "chains": {
        "ends_from": "web place", "steps_from": "web place", "visits": "web place", "met_chance": "web place other",
        "keeps": "web numbers",
    },
    "bids": {
        "need": "web place", "needs": "web", "step": "web place", "winner": "web place share",
        "safe_range": "web place share side to", "is_safe": "web place share side to bid",
    },
    "lines": {"line": "web place end", "at": "pieces number", "even_at": "web place other end"},
    "loose": {
        "least": "loose", "greatest": "loose", "least_member": "loose", "greatest_member": "loose",
        "is_member": "loose web", "sure_arrows": "loose place",
    },
    "folds": {
        "coarsest": "web", "is_fold": "web lots", "folded": "web", "struck": "web place",
        "grafted": "web end other start",
    },
    "unknown": {
        "filled": "unknown numbers", "ranges": "unknown", "sure_best": "unknown", "sure_order": "unknown",
        "asks": "unknown place",
    },
    "made": {"row_web": "row rest", "company_web": "company floor"},
    "logs": {"played": "web place lines", "best_play": "web place turns"},
    "checker": {"accepts": "claim paper"},
    "certificates": {
        "certify_worth": "web place", "certify_at_least": "web place number", "certify_at_most": "web place number",
        "certify_draws": "draw other", "certify_stop": "row rest", "certify_strike": "box", "certify_ends": "web place",
    },
}
CLASSES = {
    "webs": {
        "Web": {
            "__init__": "self rows", "kind": "self place", "arrows": "self place", "number": "self place",
            "with_number": "self place number", "__eq__": "self other", "__str__": "self",
        },
    },
    "loose": {"Loose": {"__init__": "self rows", "__eq__": "self other"}},
    "unknown": {"Unknown": {"__init__": "self web choices", "__len__": "self", "__eq__": "self other"}},
    "plays": {
        "Play": {
            "__init__": "self web place", "go": "self to", "undo": "self", "trial": "self", "tried": "self action",
        },
    },
    "books": {
        "Book": {
            "__init__": "self", "drop": "self name", "claim": "self claim", "lift": "self index", "undo": "self",
            "trial": "self", "tried": "self action", "__len__": "self",
        },
    },
    "console": {"Console": {"__init__": "self", "say": "self line"}},
}
PROPERTIES = {
    "webs": {"Web": "rows places ends text is_ending is_coins"}, "loose": {"Loose": "rows places text"},
    "unknown": {"Unknown": "web choices"},
    "plays": {"Play": "web place paid is_over trail changes due advice log"},
    "books": {"Book": "names claims changes"}, "console": {"Console": "book"},
}


class Interface(unittest.TestCase):
    def check_parameters(self, function, words):
        parameters = inspect.signature(function).parameters
        self.assertEqual(list(parameters), words.split(), function.__qualname__)
        for parameter in parameters.values():
            self.assertIs(parameter.kind, inspect.Parameter.POSITIONAL_OR_KEYWORD)
            self.assertIs(parameter.default, inspect.Parameter.empty)

    def test_each_function_is_defined_in_its_file_with_its_parameters(self):
        for name, functions in FUNCTIONS.items():
            module = importlib.import_module(f"placeworths.{name}")
            for word, parameters in functions.items():
                function = getattr(module, word)
                self.assertEqual(function.__module__, f"placeworths.{name}", word)
                self.check_parameters(function, parameters)

    def test_each_method_is_defined_in_its_class_with_its_parameters(self):
        for name, classes in CLASSES.items():
            module = importlib.import_module(f"placeworths.{name}")
            for word, methods in classes.items():
                found = getattr(module, word)
                self.assertEqual(found.__module__, f"placeworths.{name}")
                for method, parameters in methods.items():
                    self.check_parameters(vars(found)[method], parameters)

    def test_each_property_is_one_of_its_class(self):
        for name, classes in PROPERTIES.items():
            module = importlib.import_module(f"placeworths.{name}")
            for word, properties in classes.items():
                for one in properties.split():
                    self.assertIsInstance(vars(getattr(module, word))[one], property)

    def test_the_signs_of_a_book_are_methods_of_its_class(self):
        book = vars(importlib.import_module("placeworths.books").Book)
        for name, count in (("__getitem__", 2), ("__setitem__", 3), ("__contains__", 2)):
            self.assertEqual(len(inspect.signature(book[name]).parameters), count)

    def test_several_deeds_and_a_watch_by_name(self):
        told = inspect.signature(vars(importlib.import_module("placeworths.books").Book)["do_all"]).parameters
        self.assertEqual(list(told), ["self", "deeds", "watch"])
        self.assertIs(told["deeds"].kind, inspect.Parameter.VAR_POSITIONAL)
        self.assertIs(told["watch"].kind, inspect.Parameter.KEYWORD_ONLY)
        self.assertIsNone(told["watch"].default)

    def test_each_module_of_the_document_is_there(self):
        for name in (*FUNCTIONS, *CLASSES, "limits", "errors"):
            self.assertEqual(importlib.import_module(f"placeworths.{name}").__name__, f"placeworths.{name}")

    def test_a_web_can_be_read_off_its_class(self):
        web = importlib.import_module("placeworths.webs").Web
        self.assertIn("read", vars(web))
        self.check_parameters(web.read, "text")


if __name__ == "__main__":
    unittest.main()
