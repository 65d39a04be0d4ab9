"""The interface: names, parameters, and where each thing is defined."""

import importlib
import inspect
import unittest

FUNCTIONS = {
    "mats": {
        "is_mat": "told", "straight": "n", "hook": "n i", "how_many": "n m", "all_mats": "n m",
        "nth": "n m number", "rank": "mat", "upside_down": "mat", "left_right": "mat", "turned": "mat",
        "beside": "one other", "through": "mat", "upper_half": "mat", "lower_half": "mat", "strings": "mat",
    },
    "joins": {
        "joined": "one other", "joined_all": "mats", "power": "mat times", "comes_again": "mat",
        "is_own_twice": "mat", "commute": "one other", "fits_between": "goal ahead behind",
    },
    "words": {
        "value_of": "n word", "least_length": "mat", "least_word": "mat", "least_words": "mat",
        "alike": "n one other", "steps": "n word", "after_step": "n word step", "moves_between": "n word",
        "moves_lead": "n word moves other",
    },
    "classes": {
        "same_upper": "one other", "same_lower": "one other", "same_both": "one other", "led": "one other",
        "classes": "n many", "own_twice": "n", "inverses": "mat",
    },
    "polys": {
        "is_poly": "told", "plus": "one other", "times": "one other", "divided": "one other", "at": "one number",
        "at_prime": "one number prime", "u_row": "many", "fraction": "top bottom", "common": "one other",
        "fraction_plus": "one other", "fraction_times": "one other",
    },
    "sums": {
        "is_sum": "told", "sum_of": "mat", "add": "one other", "multiply": "one other", "scaled": "told poly",
        "part": "told mat", "flipped": "told", "word_sum": "n word", "at_worth": "told number",
    },
    "killers": {
        "killer": "n", "is_killed": "n told", "binomial": "n r", "killer_at": "n number prime", "trace_of_killer": "n",
    },
    "pairings": {
        "half_mats": "n k", "how_many_halves": "n k", "pairing": "one other", "pairing_table": "n k",
        "determinant": "n k", "told_determinant": "n k", "rank_at": "n k number prime",
        "nulls_at": "n k number prime",
    },
    "braids": {
        "braid_sum": "n word", "same_sums": "n one other", "writhe": "word", "closed_poly": "n word",
        "undone": "word", "moved": "n word at", "longer": "n word sign", "turned_word": "word",
    },
    "closings": {
        "closed_rings": "mat", "partly_closed": "mat many", "trace": "told", "rings_row": "n", "bent": "mat many",
        "arch_of": "mat", "unbent": "arch n", "closed_power": "mat times",
    },
    "rounds": {
        "rounds": "one other", "how_many_rounds": "one other", "pairs_row": "h", "partners": "arch many",
        "first_pair": "h many", "turned_arch": "arch steps", "turns_to": "one other",
    },
    "parts": {
        "is_parts": "told", "all_parts": "n", "arch_of_parts": "told", "parts_of_arch": "arch",
        "is_finer": "one other", "meet": "one other", "least_over": "one other", "turn": "told",
        "chains": "n many", "lengths_of": "told", "how_many_of": "lengths",
    },
    "faces": {
        "rooms": "mat", "room_at": "mat below gap", "colours": "mat", "sides": "mat", "between": "mat one other",
        "cut_string": "mat peg",
    },
}


class TestInterface(unittest.TestCase):

    def test_each_function_stands_in_its_file_with_its_parameters(self):
        for file, functions in FUNCTIONS.items():
            module = importlib.import_module("hookmats." + file)
            for name, parameters in functions.items():
                function = getattr(module, name)
                self.assertEqual(function.__module__, "hookmats." + file)
                told = inspect.signature(function).parameters.values()
                self.assertEqual([one.name for one in told], parameters.split(), name)
                for one in told:
                    self.assertIs(one.kind, inspect.Parameter.POSITIONAL_OR_KEYWORD)
                    self.assertIs(one.default, inspect.Parameter.empty)


if __name__ == "__main__":
    unittest.main()
