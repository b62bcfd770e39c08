"""The interface's names and arguments, as they stand in the document."""

import importlib
import inspect
import unittest

PROMISED = {
    "lettertoll.words": {
        "made_prices": ["prices"],
        "made_weights": ["weights"],
        "word_price": ["prices", "word"],
        "begins": ["one", "other"],
        "shared": ["one", "other"],
        "words_many": ["prices", "price"],
    },
    "lettertoll.codes": {
        "clash": ["code"],
        "is_kept": ["code"],
        "is_lean": ["code"],
        "knots_of": ["code"],
        "lone_knots": ["code"],
        "cost": ["prices", "weights", "code"],
    },
    "lettertoll.errors": {
        "Clash": ["one", "other"],
        "BadLetter": ["at"],
        "BadRow": ["at"],
    },
    "lettertoll.trees": {
        "tree_of": ["code", "letters"],
        "code_of": ["tree"],
        "spelling_of": ["code"],
        "code_by": ["letters", "things", "spelling"],
    },
    "lettertoll.reading": {
        "written": ["code", "things"],
        "read": ["code", "letters"],
        "Reader": ["code"],
    },
    "lettertoll.kept": {
        "least_floors": ["prices", "weights"],
        "cheapest_kept": ["prices", "weights"],
    },
    "lettertoll.keptexam": {
        "bound_by": ["prices", "weights", "floors", "first", "end"],
        "first_lie": ["prices", "weights", "floors"],
        "shows_kept": ["prices", "weights", "code", "floors"],
    },
    "lettertoll.bounded": {
        "least_top": ["letters", "things"],
        "least_stairs": ["prices", "weights", "top"],
        "cheapest_bounded": ["prices", "weights", "top"],
    },
    "lettertoll.boundexam": {
        "step_lie": ["prices", "weights", "top", "stairs"],
        "shows_bounded": ["prices", "weights", "top", "code", "stairs"],
        "shows_none": ["prices", "weights", "top", "stairs"],
    },
    "lettertoll.counted": {
        "many_cheapest": ["prices", "weights"],
        "many_with": ["prices", "weights", "thing", "word"],
    },
    "lettertoll.numbered": {
        "numbered": ["prices", "weights", "number"],
        "number_of": ["prices", "weights", "code"],
        "sure_words": ["prices", "weights"],
    },
    "lettertoll.moved": {
        "price_moved": ["prices", "letter", "number"],
        "weight_moved": ["weights", "thing", "number"],
        "price_share": ["prices", "weights", "code", "letter"],
        "weight_share": ["prices", "weights", "code", "thing"],
        "price_stretch": ["prices", "weights", "code", "letter"],
        "weight_stretch": ["prices", "weights", "code", "thing"],
        "price_beyond": ["prices", "weights", "code", "letter"],
        "weight_beyond": ["prices", "weights", "code", "thing"],
    },
    "lettertoll.frontiers": {
        "moves": ["prices", "weights", "frontier"],
        "frontier_floors": ["prices", "weights"],
        "frontiers_hold": ["prices", "weights", "told"],
    },
    "lettertoll.free": {
        "code_of_moves": ["prices", "weights", "row"],
        "free_moves": ["prices", "weights"],
        "free_code": ["prices", "weights"],
        "free_shown": ["prices", "weights", "code", "told"],
    },
    "lettertoll.knots": {
        "cheapest_knots": ["prices", "many"],
        "ends_of": ["prices", "many"],
    },
    "lettertoll.like": {
        "like_sums": ["prices", "things"],
        "like_code": ["prices", "things"],
    },
    "lettertoll.texts": {
        "book_text": ["signs", "prices", "names", "weights"],
        "read_book": ["text"],
        "word_text": ["signs", "word"],
        "read_word": ["signs", "text"],
    },
    "lettertoll.desk": {
        "Desk": ["text"],
    },
}

METHODS = {
    ("lettertoll.reading", "Reader"): {"take": ["letter"], "told": [], "rest": [], "back": []},
    ("lettertoll.desk", "Desk"): {
        "book": [], "put_price": ["sign", "price"], "put_weight": ["name", "weight"], "back": [], "answer": ["question"],
    },
}


class TestInterface(unittest.TestCase):
    def test_names_and_arguments(self):
        for module, names in PROMISED.items():
            for name, arguments in names.items():
                promised = getattr(importlib.import_module(module), name)
                self.assertEqual(list(inspect.signature(promised).parameters), arguments, (module, name))

    def test_methods_and_their_arguments(self):
        for (module, name), methods in METHODS.items():
            kind = getattr(importlib.import_module(module), name)
            for method, arguments in methods.items():
                promised = list(inspect.signature(getattr(kind, method)).parameters)
                self.assertEqual(promised, ["self"] + arguments, (module, name, method))


if __name__ == "__main__":
    unittest.main()
