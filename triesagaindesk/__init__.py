"""Tries again: whether to try a failed test once more, or to give a verdict."""
