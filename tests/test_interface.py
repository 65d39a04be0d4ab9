"""The interface: names, parameters, and where each thing is defined."""

import importlib
import inspect
import unittest

FUNCTIONS = {
    "mats": {
        "is_mat": "told", "straight": "n", "hook": "n i", "how_many": "n m", "all_mats": "n m",
        "nth": "n m number", "rank": "mat", "upside_down": "mat", "left_right": "mat", "turned": "mat",
        "beside": "one other", "through": "mat", "upper_half": "mat", "lower_half": "mat", "strings": "mat",
    },
    "joins": {
        "joined": "one other", "joined_all": "mats", "power": "mat times", "comes_again": "mat",
        "is_own_twice": "mat", "commute": "one other", "fits_between": "goal ahead behind",
    },
    "words": {
        "value_of": "n word", "least_length": "mat", "least_word": "mat", "least_words": "mat",
        "alike": "n one other", "steps": "n word", "after_step": "n word step", "moves_between": "n word",
        "moves_lead": "n word moves other",
    },
    "classes": {
        "same_upper": "one other", "same_lower": "one other", "same_both": "one other", "led": "one other",
        "classes": "n many", "own_twice": "n", "inverses": "mat",
    },
    "polys": {
        "is_poly": "told", "plus": "one other", "times": "one other", "divided": "one other", "at": "one number",
        "at_prime": "one number prime", "u_row": "many", "fraction": "top bottom", "common": "one other",
        "fraction_plus": "one other", "fraction_times": "one other",
    },
    "sums": {
        "is_sum": "told", "sum_of": "mat", "add": "one other", "multiply": "one other", "scaled": "told poly",
        "part": "told mat", "flipped": "told", "word_sum": "n word", "at_worth": "told number",
    },
    "killers": {
        "killer": "n", "is_killed": "n told", "binomial": "n r", "killer_at": "n number prime", "trace_of_killer": "n",
    },
    "pairings": {
        "half_mats": "n k", "how_many_halves": "n k", "pairing": "one other", "pairing_table": "n k",
        "determinant": "n k", "told_determinant": "n k", "rank_at": "n k number prime",
        "nulls_at": "n k number prime",
    },
    "braids": {
        "braid_sum": "n word", "same_sums": "n one other", "writhe": "word", "closed_poly": "n word",
        "undone": "word", "moved": "n word at", "longer": "n word sign", "turned_word": "word",
    },
    "closings": {
        "closed_rings": "mat", "partly_closed": "mat many", "trace": "told", "rings_row": "n", "bent": "mat many",
        "arch_of": "mat", "unbent": "arch n", "closed_power": "mat times",
    },
    "rounds": {
        "rounds": "one other", "how_many_rounds": "one other", "pairs_row": "h", "partners": "arch many",
        "first_pair": "h many", "turned_arch": "arch steps", "turns_to": "one other",
    },
    "parts": {
        "is_parts": "told", "all_parts": "n", "arch_of_parts": "told", "parts_of_arch": "arch",
        "is_finer": "one other", "meet": "one other", "least_over": "one other", "turn": "told",
        "chains": "n many", "lengths_of": "told", "how_many_of": "lengths",
    },
    "faces": {
        "rooms": "mat", "room_at": "mat below gap", "colours": "mat", "sides": "mat", "between": "mat one other",
        "cut_string": "mat peg",
    },
    "walks": {
        "is_walk": "told", "walk_of": "half", "half_of": "walk", "how_many_walks": "n k", "nth_walk": "n k number",
        "rank_walk": "walk", "pair_of": "mat", "mat_of": "one other", "sums_along": "walk", "returns": "walk",
        "returns_row": "h",
    },
    "worths": {
        "first_zero": "number prime", "barred": "n number prime", "ranks": "n number prime",
        "left_size": "n number prime", "is_whole": "n number prime", "closed_rank": "n number prime",
    },
    "texts": {
        "show_mat": "mat", "show_word": "word", "show_poly": "poly", "show_sum": "told", "show_parts": "told",
        "show_walk": "walk",
    },
    "readers": {
        "read_mat": "text", "read_word": "text", "read_poly": "text", "read_sum": "text", "read_parts": "text",
        "read_walk": "text",
    },
}

# The classes, the parameters of each method behind the object, and the properties.
CLASSES = {
    "live": {"Live": {
        "__init__": "n", "__len__": "", "put": "hook", "put_all": "word", "undo": "", "closed": "",
        "through_now": "", "least": "", "twin": "",
    }},
    "books": {"Book": {
        "__init__": "n entries", "__len__": "", "word_of": "name", "mat_of": "name", "alike_names": "", "reached": "",
        "shortest": "mat",
    }},
    "desk": {"Desk": {
        "__init__": "", "__len__": "", "forks": "", "names": "", "put": "name mat", "lay": "name told",
        "make": "name deed", "drop": "name", "branch": "name", "switch": "name", "undo": "", "mat_named": "name",
        "sum_named": "name", "same_as": "name", "loose": "one other", "closed": "name", "trace_of": "name",
        "order": "text",
    }},
}
PROPERTIES = {"Live": ("mat", "rings", "word"), "Book": ("n", "entries"), "Desk": ("fork",)}
MADE = {"Live": (3,), "Book": (3, [("a", (0,))]), "Desk": ()}


class TestInterface(unittest.TestCase):

    def test_each_function_stands_in_its_file_with_its_parameters(self):
        for file, functions in FUNCTIONS.items():
            module = importlib.import_module("hookmats." + file)
            for name, parameters in functions.items():
                function = getattr(module, name)
                self.assertEqual(function.__module__, "hookmats." + file)
                told = inspect.signature(function).parameters.values()
                self.assertEqual([one.name for one in told], parameters.split(), name)
                self.assert_plain(told)

    def assert_plain(self, parameters):
        for one in parameters:
            self.assertIs(one.kind, inspect.Parameter.POSITIONAL_OR_KEYWORD)
            self.assertIs(one.default, inspect.Parameter.empty)

    def test_each_class_stands_in_its_file_with_its_methods(self):
        for file, classes in CLASSES.items():
            module = importlib.import_module("hookmats." + file)
            for name, methods in classes.items():
                made = getattr(module, name)
                self.assertEqual(made.__module__, "hookmats." + file)
                for method, parameters in methods.items():
                    self.assertIn(method, vars(made), name)
                    told = list(inspect.signature(vars(made)[method]).parameters.values())[1:]
                    self.assertEqual([one.name for one in told], parameters.split(), (name, method))
                    self.assert_plain(told)
                self.assertEqual(list(inspect.signature(made).parameters), methods["__init__"].split())

    def test_each_object_has_its_properties_when_it_is_made(self):
        for file, classes in CLASSES.items():
            for name in classes:
                made = getattr(importlib.import_module("hookmats." + file), name)(*MADE[name])
                for told in PROPERTIES[name]:
                    self.assertTrue(hasattr(made, told), (name, told))
                    self.assertFalse(callable(getattr(made, told)), (name, told))


if __name__ == "__main__":
    unittest.main()
