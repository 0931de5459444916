"""Integers within a range, as all modules ask for them."""


def is_count(thing, least, most):
    """Tell whether a thing is an integer from least to most."""
    # Python takes True and False for integers, the document does not.
    if isinstance(thing, bool) or not isinstance(thing, int):
        return False
    return least <= thing <= most
