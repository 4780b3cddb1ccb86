"""What counts as an integer and as a word."""

LONGEST_WORD = 8


def is_int(thing):
    """Whether a value is an integer; True and False are none."""
    return isinstance(thing, int) and not isinstance(thing, bool)


def is_count(thing):
    """Whether a value is an integer from 0."""
    return is_int(thing) and thing >= 0


def is_letter(sign):
    """Whether a sign is a small letter from a to z."""
    return "a" <= sign <= "z"


def is_word(thing):
    """Whether a value is a string of 1 to 8 small letters."""
    if not isinstance(thing, str) or not 1 <= len(thing) <= LONGEST_WORD:
        return False
    return all([is_letter(sign) for sign in thing])
