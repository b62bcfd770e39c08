"""The interface's names and arguments, as they stand in the document."""

import importlib
import inspect
import unittest

PROMISED = {
    "lettertoll.words": {
        "made_prices": ["prices"],
        "made_weights": ["weights"],
        "word_price": ["prices", "word"],
        "begins": ["one", "other"],
        "shared": ["one", "other"],
        "words_many": ["prices", "price"],
    },
    "lettertoll.codes": {
        "clash": ["code"],
        "is_kept": ["code"],
        "is_lean": ["code"],
        "knots_of": ["code"],
        "lone_knots": ["code"],
        "cost": ["prices", "weights", "code"],
    },
    "lettertoll.errors": {
        "Clash": ["one", "other"],
        "BadLetter": ["at"],
        "BadRow": ["at"],
    },
}


class TestInterface(unittest.TestCase):
    def test_names_and_arguments(self):
        for module, names in PROMISED.items():
            for name, arguments in names.items():
                promised = getattr(importlib.import_module(module), name)
                self.assertEqual(list(inspect.signature(promised).parameters), arguments, (module, name))


if __name__ == "__main__":
    unittest.main()
