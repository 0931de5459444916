"""Integers within a range, and integers whose bits mark numbers, as several modules ask for them."""


def is_count(thing, least, most):
    """Tell whether a thing is an integer from least to most."""
    # Python takes True and False for integers, the document does not.
    if isinstance(thing, bool) or not isinstance(thing, int):
        return False
    return least <= thing <= most


def numbers_in(mask):
    """Return the ascending list of the numbers of the bits that are set in an integer."""
    return [number for number in range(mask.bit_length()) if (mask >> number) & 1]
