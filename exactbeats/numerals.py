"""Numbers as texts tell them (2.4, 15.1, 15.2)."""

MOST_FIGURES = 19


def number_in(text):
    """The number that a text tells, by figures alone and without needless zeros; None if it tells none."""
    if not text.isascii() or not text.isdigit() or len(text) > MOST_FIGURES:
        return None
    return None if text.startswith("0") and text != "0" else int(text)


def integer_in(text):
    """Likewise an integer, with a minus sign ahead of those below 0."""
    number = number_in(text.removeprefix("-"))
    if number is None or text == "-0":
        return None
    return -number if text.startswith("-") else number
