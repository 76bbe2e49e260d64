"""Skins and steps as texts, and read from them."""

from thinskin.errors import BadRow
from thinskin.errors import Barred
from thinskin.errors import NoSkin
from thinskin.skins import is_skin
from thinskin.thinner import Thinner

FIGURES = "0123456789"
MOST_FIGURES = 6
MOST_CORNERS = 120
MOST_TRIANGLES = 240
# How many numbers stand behind the first word of a row.
SIZES = {"corner": 3, "triangle": 4}


def is_numeral(word):
    """Whether a word is a number, written as it must be."""
    figures = word[1:] if word.startswith("-") else word
    if figures.startswith("0"):
        return word == "0"
    if not 1 <= len(figures) <= MOST_FIGURES:
        return False
    return all([figure in FIGURES for figure in figures])


def numbers_in(words):
    """The list of the numbers that these words are, or None where one is no number."""
    if not all([is_numeral(word) for word in words]):
        return None
    return [int(word) for word in words]


def row_parts(row):
    """A pair: the first word of a row, and the list of the numbers behind it, or None."""
    words = row.split(" ")
    return (words[0], numbers_in(words[1:]))


def are_two_corners(numbers, many):
    """Whether a list of numbers is two unlike corners of a table of so many."""
    return len(numbers) == 2 and numbers[0] != numbers[1] and all([0 <= number < many for number in numbers])


def numbers_text(numbers):
    """The numbers, parted by blanks."""
    return " ".join([str(number) for number in numbers])


def skin_text(skin):
    """The text of a skin, a row for each corner, then one for each triangle."""
    corners, triangles = skin
    rows = [f"corner {numbers_text(place)}" for place in corners]
    rows.extend([f"triangle {numbers_text(triangle)}" for triangle in triangles])
    return "\n".join(rows)


def read_rows(rows):
    """The pair of tuples that the rows tell, a skin or not; or BadRow."""
    tables = {"corner": [], "triangle": []}
    for at, row in enumerate(rows):
        word, numbers = row_parts(row)
        if word not in SIZES or numbers is None or len(numbers) != SIZES[word]:
            raise BadRow(f"row {at} is neither a corner nor a triangle", at)
        if word == "corner" and tables["triangle"]:
            raise BadRow(f"row {at} is a corner behind a triangle", at)
        tables[word].append(tuple(numbers))
    return (tuple(tables["corner"]), tuple(tables["triangle"]))


def read_skin(text):
    """The skin of a text; or BadRow, or NoSkin."""
    corners, triangles = read_rows(text.split("\n"))
    if len(corners) > MOST_CORNERS or len(triangles) > MOST_TRIANGLES:
        raise NoSkin("there are too many corners or triangles")
    if not is_skin((corners, triangles)):
        raise NoSkin("the rows make no skin")
    return (corners, triangles)


def steps_text(steps):
    """The text of steps, a row for each."""
    return "\n".join([numbers_text(step[:2]) for step in steps])


def read_steps(first, stay, text):
    """The steps of a thinner that draws as the rows say; or BadRow."""
    thinner = Thinner(first, stay)
    rows = text.split("\n") if text else []
    for at, row in enumerate(rows):
        numbers = numbers_in(row.split(" "))
        if numbers is None or not are_two_corners(numbers, len(first[0])):
            raise BadRow(f"row {at} is not two corners", at)
        b, a = numbers
        try:
            thinner.draw_to(b, a)
        except Barred as e:
            raise BadRow(f"row {at} is barred", at) from e
    return thinner.steps_done()
