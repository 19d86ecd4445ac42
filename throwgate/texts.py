"""Numbers and fractions as the rows of the desk write them."""

from throwgate.errors import BadRow
from throwgate.fracs import lowest

FIGURES = "0123456789"
MOST_FIGURES = 9


def are_figures(text):
    if len(text) < 1 or len(text) > MOST_FIGURES:
        return False
    return all([sign in FIGURES for sign in text])


def read_number(text):
    if text == "0":
        return 0
    figures = text
    if text.startswith("-"):
        figures = text[1:]
    if not are_figures(figures) or figures.startswith("0"):
        raise BadRow("this is not how a number is written")
    return int(text)


def read_fraction(text):
    parts = text.split("/")
    if len(parts) > 2:
        raise BadRow("a fraction has one stroke at most")
    if len(parts) == 1:
        return (read_number(text), 1)
    return (read_number(parts[0]), read_number(parts[1]))


def write_fraction(top, bottom):
    fraction = lowest(top, bottom)
    if fraction[1] == 1:
        return str(fraction[0])
    return "/".join([str(number) for number in fraction])
