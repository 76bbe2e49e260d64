"""A desk: a text with a skin, and deeds and asks of one thinner of it, answered row by row."""

from thinskin.errors import AtEnd
from thinskin.errors import BadRow
from thinskin.errors import Barred
from thinskin.far import both_bounds
from thinskin.marks import marked_ties
from thinskin.shape import shape_of
from thinskin.space import is_place
from thinskin.texts import are_two_corners
from thinskin.texts import numbers_text
from thinskin.texts import read_skin
from thinskin.texts import row_parts
from thinskin.thinner import Thinner
from thinskin.views import view_for

MOST_HALVINGS = 1
# How many numbers a view has: how many steps, and the six of a box.
VIEW_SIZE = 7


def fits_nothing(numbers, many):
    """Whether nothing stands behind the first word."""
    return numbers == []


def fits_corners(numbers, many):
    """Whether two unlike corners of the table do."""
    return are_two_corners(numbers, many)


def fits_count(numbers, many):
    """Whether one number from 0 on does."""
    return len(numbers) == 1 and numbers[0] >= 0


def fits_halvings(numbers, many):
    """Whether a number of halvings does."""
    return len(numbers) == 1 and 0 <= numbers[0] <= MOST_HALVINGS


def is_box(low, high):
    """Whether two tuples of three numbers are places that bound a box."""
    return is_place(low) and is_place(high) and all([one <= other for one, other in zip(low, high)])


def fits_wish(numbers, many):
    """Whether a number from 0 on and a box do."""
    return len(numbers) == VIEW_SIZE and numbers[0] >= 0 and is_box(tuple(numbers[1:4]), tuple(numbers[4:]))


def listed(rows):
    """The text of several tuples of numbers."""
    return "; ".join([numbers_text(row) for row in rows])


def pairs_text(steps):
    """The text of several steps."""
    return listed([step[:2] for step in steps])


def fraction_text(fraction):
    """The text of a fraction."""
    n, d = fraction
    return f"{n}/{d}"


def tell_draw(thinner, numbers):
    """Draws, and tells the step."""
    b, a = numbers
    return pairs_text([thinner.draw_to(b, a)])


def tell_back(thinner, numbers):
    """Takes a step back, and tells it."""
    return pairs_text([thinner.go_back()])


def tell_forth(thinner, numbers):
    """Does a step again, and tells it."""
    return pairs_text([thinner.go_forth()])


def tell_thin(thinner, numbers):
    """Thins, and tells what was drawn."""
    return listed(thinner.thin_to(numbers[0]))


def tell_least(thinner, numbers):
    """The least of the prices."""
    least = thinner.least_now()
    return "" if least is None else numbers_text(least)


def tell_bar(thinner, numbers):
    """The word for what bars a drawing."""
    b, a = numbers
    word = thinner.bar_to(b, a)
    return "" if word is None else word


def tell_steps(thinner, numbers):
    """The steps done."""
    return pairs_text(thinner.steps_done())


def tell_undone(thinner, numbers):
    """The steps taken back."""
    return pairs_text(thinner.steps_undone())


def tell_shape(thinner, numbers):
    """How many parts, rims and handles the skin now has."""
    return numbers_text(shape_of(thinner.skin_now()))


def tell_marks(thinner, numbers):
    """The marked ties of the skin now."""
    return listed(marked_ties(thinner.skin_now()))


def tell_skin(thinner, numbers):
    """The triangles of the skin now."""
    return listed(thinner.skin_now()[1])


def tell_far(thinner, numbers):
    """The bounds of how far the skin now is from the first one."""
    low, high = both_bounds(thinner.skin_now(), thinner.first_skin(), numbers[0])
    return f"{fraction_text(low)} {fraction_text(high)}"


def tell_view(thinner, numbers):
    """How many triangles the view of one wish has."""
    box = (tuple(numbers[1:4]), tuple(numbers[4:]))
    view = view_for(thinner.first_skin(), thinner.steps_done(), [(box, numbers[0])])
    return str(len(view[1]))


# What may stand behind the first word of a row, and what answers it.
FITS = {
    "draw": fits_corners,
    "back": fits_nothing,
    "forth": fits_nothing,
    "thin": fits_count,
    "least": fits_nothing,
    "bar": fits_corners,
    "steps": fits_nothing,
    "undone": fits_nothing,
    "shape": fits_nothing,
    "marks": fits_nothing,
    "skin": fits_nothing,
    "far": fits_halvings,
    "view": fits_wish,
}
TELLS = {
    "draw": tell_draw,
    "back": tell_back,
    "forth": tell_forth,
    "thin": tell_thin,
    "least": tell_least,
    "bar": tell_bar,
    "steps": tell_steps,
    "undone": tell_undone,
    "shape": tell_shape,
    "marks": tell_marks,
    "skin": tell_skin,
    "far": tell_far,
    "view": tell_view,
}


def stay_row(rows):
    """The number of the first row whose first word is stay; or BadRow."""
    for at, row in enumerate(rows):
        if row_parts(row)[0] == "stay":
            return at
    raise BadRow("no row says which corners stay", len(rows))


def are_staying(numbers, many):
    """Whether a list of numbers rises, and all are corners of a table of so many."""
    rising = all([one < other for one, other in zip(numbers, numbers[1:])])
    return rising and all([0 <= number < many for number in numbers])


def read_stay(rows, at, many):
    """The tuple of the corners that stay; or BadRow."""
    numbers = row_parts(rows[at])[1]
    if numbers is None or not are_staying(numbers, many):
        raise BadRow(f"row {at} is not rising corners", at)
    return tuple(numbers)


def read_ask(rows, at, many):
    """A pair: the word of a deed or an ask, and its numbers; or BadRow."""
    word, numbers = row_parts(rows[at])
    if word not in FITS or numbers is None:
        raise BadRow(f"row {at} is no deed and no ask", at)
    fits = FITS[word]
    if not fits(numbers, many):
        raise BadRow(f"row {at} has not the numbers that it must have", at)
    return (word, numbers)


def answer_of(thinner, word, numbers):
    """The answer to one deed or ask, or the name of its refusal."""
    tell = TELLS[word]
    try:
        told = tell(thinner, numbers)
    except Barred:
        return "refused Barred"
    except AtEnd:
        return "refused AtEnd"
    return told if told else "-"


def answers_to(text):
    """The list of the answers to all deeds and asks of a text; or BadRow, or NoSkin."""
    rows = text.split("\n")
    at = stay_row(rows)
    skin = read_skin("\n".join(rows[:at]))
    many = len(skin[0])
    stay = read_stay(rows, at, many)
    # All rows are read ahead of the first deed: a row at fault is refused whatever came before.
    asks = [read_ask(rows, k, many) for k in range(at + 1, len(rows))]
    thinner = Thinner(skin, stay)
    return [answer_of(thinner, word, numbers) for word, numbers in asks]
