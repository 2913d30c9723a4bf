"""Names, and numbers as they are written."""

SMALL_LETTERS = "abcdefghijklmnopqrstuvwxyz"
FIGURES = "0123456789"


def is_name_beside(value, kept_words):
    """Whether a value is a name, none of the kept words."""
    if not isinstance(value, str) or not 1 <= len(value) <= 12:
        return False
    if value[0] not in SMALL_LETTERS or value in kept_words:
        return False
    return all(is_word_sign(sign) for sign in value)


def is_word_sign(sign):
    """Whether a sign is a small letter or a figure."""
    return sign in SMALL_LETTERS or sign in FIGURES


def number_in(text, least, most):
    """The number that a text writes without noughts ahead, None if it is none from least to most."""
    if not 1 <= len(text) <= 5 or not all(sign in FIGURES for sign in text):
        return None
    if text[0] == "0" and len(text) > 1:
        return None
    number = int(text)
    return number if least <= number <= most else None
