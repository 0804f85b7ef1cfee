"""What is a key, and what is a value."""

LETTERS = "abcdefghijklmnopqrstuvwxyz"
LONGEST_KEY = 8
GREATEST_VALUE = 999999


def is_key(text):
    """Whether a text is a key."""
    return 1 <= len(text) <= LONGEST_KEY and all(sign in LETTERS for sign in text)


def is_value(number):
    """Whether a number is a value."""
    return 0 <= number <= GREATEST_VALUE
