"""What texts of leaves and books, and the rows of a desk, have in common."""

from fadeleaf.errors import NoText

_FIGURES = "0123456789"


def is_number(word):
    """Tell whether a text is a whole number in figures, without a 0 ahead of another figure."""
    if word == "" or not all([sign in _FIGURES for sign in word]):
        return False
    return word == "0" or word[0] != "0"


def text_of(rows):
    """Tell the text of rows, a line feed behind each."""
    return "".join([row + "\n" for row in rows])


def read_rows(reader, text):
    """Let a reader take the rows of a text; NoText has the number of the first one that cannot stand there."""
    if not isinstance(text, str):
        raise NoText(None)
    # Behind the last line feed nothing may stand: a row there has no line feed of its own.
    *rows, rest = text.split("\n")
    for at, row in enumerate(rows, start=1):
        if not reader.takes(row):
            raise NoText(at)
    if rest != "" or not reader.may_end():
        raise NoText(len(rows) + 1)
