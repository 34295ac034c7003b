"""A row's text: written, and read back."""

from topstretch.errors import NoText

FIGURES = "0123456789"
MOST_FIGURES = 30


def shown_row(row):
    return " ".join([str(number) for number in row])


def are_figures(word, most):
    if not 1 <= len(word) <= most:
        return False
    if word[0] == "0" and word != "0":
        return False
    # Python's int reads blanks, line feeds and underscores too, so each sign is looked at.
    return all([sign in FIGURES for sign in word])


def is_number(word):
    if word.startswith("-"):
        return word != "-0" and are_figures(word[1:], MOST_FIGURES)
    return are_figures(word, MOST_FIGURES)


def read_row(text):
    words = text.split(" ")
    if not all([is_number(word) for word in words]):
        raise NoText("not the text of a row")
    return [int(word) for word in words]
