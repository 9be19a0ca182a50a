"""Cells: when two are alike, and which of two stands before the other."""


def alike(one, other):
    """True where both cells are the same number or the same text, else False."""
    # Python never takes a number and a text for equal, so the kinds need no test of their own.
    return one == other


def before(one, other):
    """True where the first cell stands before the second, else False."""
    one_is_text = isinstance(one, str)
    other_is_text = isinstance(other, str)
    # Python does not order a number and a text: here the number comes first.
    if one_is_text != other_is_text:
        return other_is_text
    return one < other
