"""The names and arguments that the interface lists, in the modules that are there."""

import inspect
import unittest
from importlib import import_module

LISTED = {
    "numbers": {
        "number_of": "root a b c", "is_number": "root thing", "plus": "root one other", "minus": "root one other",
        "times": "root one other", "over": "root one other", "less": "root one other", "floor_of": "root one",
        "simplest": "root one other",
    },
    "changes": {
        "is_change": "thing", "whole_of": "change", "begins_of": "change", "moves_of": "change", "laid_of": "change",
        "piece_at": "change point", "goes": "change point", "came": "change point",
    },
    "walks": {"after": "change point often", "word_of": "change point often", "comes_back": "change point most"},
    "words": {
        "all_words": "change often", "many_words": "change often", "stretch_of": "change word",
        "next_pieces": "change word",
    },
    "together": {
        "slim": "change", "behind": "one other", "undone": "change", "often": "change times", "same": "one other",
        "is_idle": "change",
    },
    "bands": {
        "is_band": "change thing", "band_of": "change point", "bands_upto": "change most", "all_bands": "change",
        "all_back": "change",
    },
    "returns": {"back_to": "change begin end", "met_long": "change begin end"},
    "steps": {
        "is_even": "change", "step_of": "change", "steps_done": "change most", "unstepped": "change sort",
    },
    "rows": {"rows_of": "change most", "are_rows": "change lesser thing"},
    "drift": {"drift_of": "change", "turn_by": "root whole by", "crossed": "one other"},
    "parts": {"parts_at": "change", "parted": "change", "side_by_side": "changes"},
    "meetings": {"meetings_of": "change most"},
    "shares": {"is_share": "change thing", "least_share": "change point"},
    "loops": {"loop_shown": "change thing", "loop_of": "change most"},
    "texts": {"number_text": "number", "change_text": "change", "number_read": "text", "change_read": "text"},
}


class Interface(unittest.TestCase):
    def test_names_and_arguments(self):
        for module, functions in LISTED.items():
            for name, arguments in functions.items():
                with self.subTest(module=module, name=name):
                    function = getattr(import_module(f"cutexchange.{module}"), name)
                    self.assertEqual(list(inspect.signature(function).parameters), arguments.split())


if __name__ == "__main__":
    unittest.main()
