"""What all looks at anything share: whole numbers, numbers in figures, and sameness to the last part."""

FIGURES = "0123456789"


def is_whole(thing):
    """Whether thing is a whole number; True and False are none."""
    return isinstance(thing, int) and not isinstance(thing, bool)


def same(told, thing):
    """Whether thing, anything, is just what was told, of tuples and whole numbers."""
    if told != thing:
        return False
    # Python holds 1 and True to be equal, the document doesn't. Written out, all are found sooner than one by one.
    written = repr(thing)
    return "e" not in written and "." not in written


def is_figure(sign):
    """Whether a text is one figure."""
    return len(sign) == 1 and sign in FIGURES


def is_figures(text):
    """Whether a text is a number in figures, without noughts ahead."""
    if not all([is_figure(sign) for sign in text]):
        return False
    return text == "0" or (text != "" and text[0] != "0")
