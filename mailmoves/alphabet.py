"""The letters that words are made of: a to z and 0 to 9, by their bytes."""

FIRST_DIGIT = 48
LAST_DIGIT = 57
FIRST_SMALL = 97
LAST_SMALL = 122
DIGITS = "0123456789"
SMALL = "abcdefghijklmnopqrstuvwxyz"


def letter_of(byte):
    """The letter that a byte is; an empty text if it is none."""
    if FIRST_DIGIT <= byte <= LAST_DIGIT:
        return DIGITS[byte - FIRST_DIGIT]
    if FIRST_SMALL <= byte <= LAST_SMALL:
        return SMALL[byte - FIRST_SMALL]
    return ""
