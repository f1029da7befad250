"""Floors written as texts, and read."""

from holefloor.errors import NoText, NoWeb
from holefloor.webs import ends_at, web_of

FIGURES = "0123456789"
MOST_FIGURES = 60


def written(web, order):
    """The floor as a text."""
    rows = [("places", web[0])]
    rows += [("tie", a, b) for a, b in web[1]]
    rows += [("at", place) + row for place, row in enumerate(order) if row]
    return "\n".join([" ".join([str(word) for word in row]) for row in rows])


def read(text):
    """The floor that is written so, or NoText."""
    if not isinstance(text, str):
        raise NoText(1)
    rows = text.split("\n")
    floor = None
    for at, row in enumerate(rows, start=1):
        floor = floor_with(floor, row)
        if floor is None:
            raise NoText(at)
    web, standing = floor
    order = standing + ((),) * (web[0] - len(standing))
    if not all([sorted(ends) == ends_at(web, place) for place, ends in enumerate(order)]):
        raise NoText(len(rows) + 1)
    return (web, order)


def floor_with(floor, row):
    """What is read so far, a web and the order's first tuples, with one more row; None where it can't stand there."""
    words = row.split(" ")
    numbers = [number_written(word) for word in words[1:]]
    if None in numbers:
        return None
    if floor is None:
        return with_places(numbers) if words[0] == "places" else None
    web, standing = floor
    if words[0] == "tie" and not standing:
        return with_tie(web, numbers)
    return with_ends(web, standing, numbers) if words[0] == "at" else None


def number_written(word):
    """The number that is written so, None where none is."""
    if not 1 <= len(word) <= MOST_FIGURES or not all([sign in FIGURES for sign in word]):
        return None
    return None if word[0] == "0" and word != "0" else int(word)


def with_places(numbers):
    """A web of so many places, as the first row tells; None where it can't."""
    return with_web(numbers[0], ()) if len(numbers) == 1 else None


def with_tie(web, numbers):
    """The web with one more tie between these places; None where they can't be tied."""
    return with_web(web[0], web[1] + (tuple(numbers),))


def with_web(many, ties):
    """The web of these, with no tuples of its order yet; None where there is no such web."""
    try:
        return (web_of(many, ties), ())
    except NoWeb:
        return None


def with_ends(web, standing, numbers):
    """The order's tuples with that of one more place, the first number's; None where it can't stand there."""
    if len(numbers) < 2 or numbers[0] < len(standing):
        return None
    place = numbers[0]
    ends = tuple(numbers[1:])
    # What is no place has no ends either.
    if sorted(ends) != ends_at(web, place) or ends[0] != min(ends):
        return None
    # Places that are passed by are taken to have no ends, until all rows are read.
    return (web, standing + ((),) * (place - len(standing)) + (ends,))
