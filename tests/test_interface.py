"""Names, arguments and places of all that the interface lists."""

import importlib
import inspect
import unittest

from tests.helpers import ERRORS

INTERFACE = {
    "errors": dict(ERRORS),
    "fields": {
        "Word": ("signs", "least", "most"),
        "Number": ("least", "most"),
        "Fixed": ("width",),
        "Listed": ("texts",),
        "Ended": ("signs", "sign", "least", "most"),
        "Marked": ("none", "mark", "field"),
        "text_of": ("field", "value"),
        "value_of": ("field", "text"),
        "is_before": ("field", "one", "other"),
    },
    "kinds": {
        "least_texts": ("field", "count"),
        "has_beginnings_first": ("field",),
        "is_whole": ("field",),
    },
    "layouts": {
        "Layout": ("fields", "joints"),
        "bare_layout": ("fields",),
        "row_text": ("layout", "row"),
        "is_ahead": ("layout", "one", "other"),
    },
    "reading": {
        "rows_with": ("layout", "text"),
        "count_ways": ("layout", "text"),
        "read_greedily": ("layout", "text"),
    },
    "keeping": {
        "Pair": ("one", "other"),
        "alike_rows": ("layout",),
        "unsorted_rows": ("layout",),
        "strangers": ("layout", "k"),
        "mistaken_row": ("layout",),
    },
    "mending": {
        "Wish": ("order", "scans"),
        "Stretch": ("kind", "first", "last", "pair"),
        "Mend": ("joints", "stretches"),
        "broken_stretches": ("fields", "wish"),
        "mended": ("fields", "wish"),
        "is_mend": ("fields", "wish", "thing"),
    },
    "closing": {
        "closed_joints": ("fields",),
    },
    "counting": {
        "count_rows": ("layout",),
        "rank_of": ("layout", "text"),
        "row_at": ("layout", "place"),
        "place_of": ("layout", "row"),
        "from_text": ("layout", "text"),
    },
    "commons": {
        "common_text": ("layout", "other"),
    },
    "stores": {
        "Store": ("layout",),
    },
    "layouttexts": {
        "layout_text": ("layout",),
        "read_layout": ("text",),
        "row_word": ("layout", "row"),
        "read_row": ("layout", "text"),
    },
    "desk": {
        "Desk": ("layout",),
    },
}
METHODS = {
    "stores": {
        "Store": {"put": ("row", "number"), "take": ("row",), "get": ("row",), "scan": ("values",), "size": (),
                  "moved": ("layout",)},
    },
    "desk": {
        "Desk": {"tell": ("command",)},
    },
    "errors": {name: {"told": ()} for name in ERRORS},
}


class Interface(unittest.TestCase):

    def test_names_and_arguments(self):
        for file, names in INTERFACE.items():
            module = importlib.import_module("jointkeys." + file)
            for name, expected in names.items():
                thing = getattr(module, name)
                self.assertEqual(thing.__module__, "jointkeys." + file, name)
                parameters = inspect.signature(thing).parameters.values()
                self.assertEqual(tuple(each.name for each in parameters), expected, name)
                for each in parameters:
                    self.assertEqual(each.kind, inspect.Parameter.POSITIONAL_OR_KEYWORD)

    def test_methods_stand_in_their_classes(self):
        for file, classes in METHODS.items():
            module = importlib.import_module("jointkeys." + file)
            for name, methods in classes.items():
                for method, expected in methods.items():
                    self.assertIn(method, vars(getattr(module, name)), name)
                    parameters = list(inspect.signature(vars(getattr(module, name))[method]).parameters.values())
                    self.assertEqual(tuple(each.name for each in parameters[1:]), expected, (name, method))
                    for each in parameters:
                        self.assertEqual(each.kind, inspect.Parameter.POSITIONAL_OR_KEYWORD)

    def test_files(self):
        # The interface lists these; the other files are helpers.
        self.assertEqual(sorted(INTERFACE), sorted("""errors fields kinds layouts reading keeping mending closing counting
            commons stores layouttexts desk""".split()))

    def test_attributes_are_the_parameters(self):
        fields = importlib.import_module("jointkeys.fields")
        layouts = importlib.import_module("jointkeys.layouts")
        keeping = importlib.import_module("jointkeys.keeping")
        mending = importlib.import_module("jointkeys.mending")
        inner = fields.Fixed(1)
        made = [fields.Word("ab", 1, 2), fields.Number(1, 2), inner, fields.Listed(["a"]),
                fields.Ended("ab", "c", 1, 2), fields.Marked("N", "m", inner),
                layouts.Layout([inner], []), keeping.Pair(("a",), ("b",)), mending.Wish(True, []),
                mending.Stretch("open", 0, 0, keeping.Pair((), ())), mending.Mend([], [])]
        for thing in made:
            file = thing.__class__.__module__.partition(".")[2]
            names = INTERFACE[file][thing.__class__.__name__]
            for name in names:
                self.assertTrue(hasattr(thing, name))


if __name__ == "__main__":
    unittest.main()
