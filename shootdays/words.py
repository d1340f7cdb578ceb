"""Words of a text: names, and numbers by their figures."""

LONGEST_NAME = 8


def is_name(text):
    """Whether this is a text of one to eight small letters; False of what is no text."""
    if not isinstance(text, str):
        return False
    # The letters are compared, as islower and isalpha take letters beyond a to z, too.
    return 1 <= len(text) <= LONGEST_NAME and all("a" <= sign <= "z" for sign in text)


def number_in(text, most):
    """The number that the text writes by at most so many figures, or None."""
    if not 1 <= len(text) <= most:
        return None
    # int by itself takes signs, blanks and underscores, too.
    if not all("0" <= sign <= "9" for sign in text):
        return None
    if text[0] == "0" and len(text) > 1:
        return None
    return int(text)
