"""Names and numbers, and the numbers that several modules share."""

MOST = 1000000
PLENTY = 1000000000
WHEEL = "car"
LETTERS = 8


def is_name(value):
    """Whether any value is a string of 1 to 8 lowercase letters from a to z."""
    if not isinstance(value, str) or not 1 <= len(value) <= LETTERS:
        return False
    return all(["a" <= letter <= "z" for letter in value])


def is_number(value, least=0, most=None):
    """Whether any value is a number from least on, and at most most unless that is None."""
    # True and False are integers for Python, but no numbers here.
    if not isinstance(value, int) or isinstance(value, bool):
        return False
    return value >= least and (most is None or value <= most)
