"""The most general typing of an expression."""

from rowtypes.errors import TooLarge
from rowtypes.inference import Inference
from rowtypes.types import told


def typed(expression, ignored):
    """The types of all nodes, or None if there is no typing; raises TooLarge."""
    return typed_in(expression, ignored, ())


def typed_in(expression, ignored, given):
    """The same with names in reach, each with all types that come from its given one."""
    inference = Inference(expression, ignored, given)
    if not inference.solved():
        return None
    types = inference.types()
    if None in types:
        raise TooLarge()
    return told(tuple(types))
