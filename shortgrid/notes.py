"""Rows written as a text, and read from one."""

from shortgrid.errors import BadRows, BadText
from shortgrid.grids import check_grid

BETWEEN_ROWS = "; "
BETWEEN_NUMBERS = " "
MOST_SIGNS = 8


def shown(rows):
    """The text of the rows."""
    check_grid(rows)
    return BETWEEN_ROWS.join([BETWEEN_NUMBERS.join([str(number) for number in row]) for row in rows])


def read(text):
    """The rows of a text, which is just what is written of them."""
    if type(text) != str:
        raise BadText("this is no text")
    rows = [row_of(part) for part in text.split(BETWEEN_ROWS)]
    try:
        check_grid(rows)
    except BadRows:
        raise BadText("the text is not of rows that make a grid") from None
    return rows


def row_of(part):
    """The row of a part of the text."""
    return tuple([number_of(word) for word in part.split(BETWEEN_NUMBERS)])


def number_of(word):
    """The number of a word, which is just what is written of it."""
    figures = word[1:] if word.startswith("-") else word
    # No number of a row takes more signs, and Python itself does not read a number of thousands of figures.
    if not figures.isdecimal() or len(word) > MOST_SIGNS:
        raise BadText("a number is written by figures, with a minus ahead where it is below nought")
    number = int(word)
    # Noughts ahead and a minus ahead of nought get lost on the way there and back.
    if str(number) != word:
        raise BadText("a number has no noughts ahead, and nought no minus")
    return number
