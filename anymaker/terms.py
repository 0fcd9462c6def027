"""Terms: what is let to all requests of a run, and the width."""

from anymaker.documents import is_ruling
from anymaker.forms import KINDS, is_let, is_row


def is_terms(thing):
    """Whether any value is terms."""
    if not is_row(thing, 4) or not is_let(thing[3], (1, 2, 3)):
        return False
    return all([is_ruling(("anew", options), kind) for kind, options in zip(KINDS[:3], thing[:3])])
