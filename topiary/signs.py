"""The signs that may stand in texts and strings (points 14 and 16)."""

LETTERS = "abcdefghijklmnopqrstuvwxyz"


def is_sign(character):
    """Return True for the newline and for each character from the space to `~`."""
    return character == "\n" or " " <= character <= "~"


def has_only_signs(string):
    """Return True if each character of the string may stand in a text."""
    return all(is_sign(character) for character in string)


def is_letter(character):
    """Return True for each small letter."""
    return "a" <= character <= "z"
