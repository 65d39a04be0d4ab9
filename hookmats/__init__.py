"""Strings between two rows of pegs, none crossing, put one behind another."""
