"""Texts of values and of numbers."""

from failsalike.errors import InvalidText

DIGITS = "0123456789"


def show_value(value):
    """The text of a value."""
    if value is None:
        return "nothing"
    if isinstance(value, str):
        return f'"{value}"'
    return str(value)


def integer_of(word):
    """The integer that is written so: digits, perhaps behind a sign, without a zero in front."""
    digits = word[1:] if word.startswith("-") else word
    if digits == "" or not all([digit in DIGITS for digit in digits]):
        raise InvalidText()
    number = int(word)
    if str(number) != word:
        raise InvalidText()
    return number


def value_of(word):
    """The value that is written so; for what is no text of a value, perhaps one with another text, or no value."""
    if word == "nothing":
        return None
    if word.startswith('"'):
        return word[1:-1]
    return integer_of(word)
