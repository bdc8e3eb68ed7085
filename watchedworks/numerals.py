"""Numerals: numbers in decimal digits without needless zeros."""


def is_numeral(text, most):
    """Whether a string is such a number of at most so many digits."""
    if not 1 <= len(text) <= most or not all(["0" <= sign <= "9" for sign in text]):
        return False
    return text == "0" or text[0] != "0"
