"""Everywhere at the same moment: trees of wire that bring a signal to all leaves at once."""
