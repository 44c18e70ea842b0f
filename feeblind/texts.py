"""What the readers of texts share."""

from feeblind.errors import BadText
from feeblind.names import is_number

# The greatest number of a text is 1000000.
DIGITS = 7


def written_number(word, least, most):
    """The number that a word of a text is, or None if it is none from least to most."""
    # Python does not read numbers of thousands of digits, so the length is asked first.
    if not 1 <= len(word) <= DIGITS or not all(["0" <= letter <= "9" for letter in word]):
        return None
    if word[0] == "0" and len(word) > 1:
        return None
    number = int(word)
    return number if is_number(number, least, most) else None


def read_lines(reader, text):
    """Gives the lines of a text to a reader, until one cannot stand; the reader tells whether the text is whole."""
    if not isinstance(text, str):
        raise BadText(0)
    lines = text.split("\n")
    behind = lines.pop()
    for at, line in enumerate(lines):
        if not reader.takes(line.split(" ")):
            raise BadText(at)
    if behind != "" or not reader.whole:
        raise BadText(len(lines))
