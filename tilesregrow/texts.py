"""Lines and words of texts, and NAMEs."""

FIGURES = "0123456789"

SMALL_LETTERS = "abcdefghijklmnopqrstuvwxyz"


def lines_of(text):
    """The list of the lines of a text: what follows the last line feed is a line only if it is not empty."""
    lines = text.split("\n")
    return lines if lines[-1] else lines[:-1]


def words_of(line):
    """The list of the words of a line, which are cut at each single space."""
    return line.split(" ")


def is_name(value):
    """Whether a value is a NAME."""
    if not isinstance(value, str) or not 1 <= len(value) <= 12 or value[0] not in SMALL_LETTERS:
        return False
    return all([sign in SMALL_LETTERS or sign in FIGURES for sign in value])
