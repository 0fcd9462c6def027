"""Expressions."""

from anymaker.trees import is_tree


def is_expression(thing):
    """Whether any value is an expression."""
    return is_tree(thing, None)
