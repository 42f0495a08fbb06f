"""Numbers as texts write them."""

_FIGURES = "0123456789"
_MOST_FIGURES = 12


def number_in(text):
    """The number that is just so written, or None. No number that may stand in a text has more figures."""
    figures = text[1:] if text.startswith("-") else text
    if not 1 <= len(figures) <= _MOST_FIGURES or not all([sign in _FIGURES for sign in figures]):
        return None
    number = int(text)
    return number if str(number) == text else None
