"""Letters, digits and names (points 7 and 9)."""

MOST_CHARACTERS = 80


def is_letter(character):
    """Returns True if the character is one of a to z and A to Z."""
    return "a" <= character <= "z" or "A" <= character <= "Z"


def is_digit(character):
    """Returns True if the character is one of 0 to 9."""
    return "0" <= character <= "9"


def is_name(value):
    """Returns True if the value is a name of point 7."""
    if not isinstance(value, str) or not 1 <= len(value) <= MOST_CHARACTERS:
        return False
    return is_letter(value[0]) and all([_may_follow(character) for character in value])


def _may_follow(character):
    return is_letter(character) or is_digit(character) or character in "_.[]"
