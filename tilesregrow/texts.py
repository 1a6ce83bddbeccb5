"""Lines and words of texts, NAMEs and numbers."""

FIGURES = "0123456789"

SMALL_LETTERS = "abcdefghijklmnopqrstuvwxyz"

MOST_FIGURES = 6


def lines_of(text):
    """The list of the lines of a text: what follows the last line feed is a line only if it is not empty."""
    lines = text.split("\n")
    return lines if lines[-1] else lines[:-1]


def words_of(line):
    """The list of the words of a line, which are cut at each single space."""
    return line.split(" ")


def is_name(value):
    """Whether a value is a NAME."""
    if not isinstance(value, str) or not 1 <= len(value) <= 12 or value[0] not in SMALL_LETTERS:
        return False
    return all([sign in SMALL_LETTERS or sign in FIGURES for sign in value])


def text_of(lines):
    """The text of some lines, each with a line feed."""
    return "".join([line + "\n" for line in lines])


def number_of(word):
    """The number that a word N tells, None if it is none."""
    if not 1 <= len(word) <= MOST_FIGURES or not all([sign in FIGURES for sign in word]):
        return None
    return int(word)


def integer_of(word):
    """The integer that a word Z tells, None if it is none."""
    if not word.startswith("-"):
        return number_of(word)
    number = number_of(word[1:])
    return None if number is None else -number


def numbers_of(word):
    """The tuple of the numbers that a word NUMBERS tells, None if it is none."""
    numbers = tuple([number_of(part) for part in word.split(",")])
    return None if None in numbers else numbers
