"""Names, and numbers as they are written."""

LETTERS = "abcdefghijklmnopqrstuvwxyz"
DIGITS = "0123456789"
MOST_LETTERS = 12
RESERVED = ("all", "and", "or", "not", "some", "every", "row", "first", "from", "to", "at", "in")


def is_name(text):
    """Whether a text is a name."""
    if not 1 <= len(text) <= MOST_LETTERS or text in RESERVED:
        return False
    return text[0] in LETTERS and _consists_of(text, LETTERS + DIGITS)


def is_number(text, digits):
    """Whether a text is a number of at most so many digits without a sign and a leading zero."""
    if not 1 <= len(text) <= digits or not _consists_of(text, DIGITS):
        return False
    return text == "0" or text[0] != "0"


def _consists_of(text, signs):
    for sign in text:
        if sign not in signs:
            return False
    return True
