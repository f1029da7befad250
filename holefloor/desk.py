"""A desk that keeps floors by names and answers rows."""

from holefloor.alike import alike
from holefloor.changes import drawn_in, put_in, taken_out
from holefloor.counting import counts, fewest, most
from holefloor.errors import NoName, NoRow
from holefloor.faces import faces
from holefloor.holes import holes
from holefloor.joins import joined_at, orders_joined
from holefloor.orders import mirrored
from holefloor.seen import seen
from holefloor.texts import number_written, read, written
from holefloor.webs import rank_of

LETTERS = "abcdefghijklmnopqrstuvwxyz"
MOST_LETTERS = 8

# What stands behind each row's first word: a name to keep a floor by, the name of a kept one, a number, a text.
FORMS = {
    "floor": ("new", "text"),
    "put": ("kept", "number", "number"),
    "out": ("kept", "number"),
    "in": ("kept", "number"),
    "mirror": ("kept",),
    "drop": ("kept",),
    "undo": (),
    "seen": ("new", "kept"),
    "join": ("new", "kept", "number", "kept", "number"),
    "show": ("kept",),
    "holes": ("kept",),
    "rank": ("kept",),
    "faces": ("kept",),
    "fewest": ("kept",),
    "most": ("kept",),
    "counts": ("kept",),
    "alike": ("kept", "kept"),
    "names": (),
}


def row_read(row):
    """The row's first word and a list of what stands behind it, or NoRow."""
    if not isinstance(row, str):
        raise NoRow("a row is a text")
    head, feed, text = row.partition("\n")
    words = head.split(" ")
    form = FORMS.get(words[0])
    if form is None or (feed == "\n") != ("text" in form):
        raise NoRow("there is no such row")
    behind = words[1:] + [text] if feed else words[1:]
    if len(behind) != len(form):
        raise NoRow("the row has too few words or too many")
    things = [thing_read(kind, word) for kind, word in zip(form, behind)]
    if None in things:
        raise NoRow("a word is no name or no number")
    return (words[0], things)


def thing_read(kind, word):
    """What the word is that is to be of this kind, None where it is not."""
    if kind == "number":
        return number_written(word)
    return word if kind == "text" or is_name(word) else None


def is_name(word):
    """Whether a floor can be kept by the word."""
    return 1 <= len(word) <= MOST_LETTERS and all([sign in LETTERS for sign in word])


def floor_read(things):
    """The floor of a text."""
    return read(things[1])


def floor_put(things):
    """The floor with a tie put in."""
    (web, order), one, other = things
    return put_in(web, order, one, other)


def floor_out(things):
    """The floor with a tie taken out."""
    (web, order), tie = things
    return taken_out(web, order, tie)


def floor_in(things):
    """The floor with a tie drawn in."""
    (web, order), tie = things
    return drawn_in(web, order, tie)


def floor_mirrored(things):
    """The floor mirrored."""
    web, order = things[0]
    return (web, mirrored(order))


def floor_seen(things):
    """The floor seen from its faces."""
    web, order = things[1]
    return seen(web, order)


def floor_joined(things):
    """The floors joined at a place of each."""
    name, (web, order), place, (other, its_order), its = things
    return (joined_at(web, place, other, its), orders_joined(web, order, place, other, its_order, its))


def text_shown(things):
    """The floor's text."""
    web, order = things[0]
    return written(web, order)


def text_of_holes(things):
    """How many holes the floor has."""
    web, order = things[0]
    return str(holes(web, order))


def text_of_rank(things):
    """The rank of the floor's web."""
    return str(rank_of(things[0][0]))


def text_of_faces(things):
    """The floor's faces."""
    web, order = things[0]
    return " ".join([",".join([str(end) for end in face]) if face else "-" for face in faces(web, order)])


def text_of_fewest(things):
    """The fewest holes of the floor's web."""
    return str(fewest(things[0][0])[0])


def text_of_most(things):
    """The most holes of the floor's web."""
    return str(most(things[0][0])[0])


def text_of_counts(things):
    """The counts of the floor's web."""
    return " ".join([str(many) for many in counts(things[0][0])])


def text_of_alike(things):
    """Whether both floors are alike."""
    (web, order), (other, its_order) = things
    return "no" if alike(web, order, other, its_order) is None else "yes"


DEEDS = {
    "floor": floor_read,
    "put": floor_put,
    "out": floor_out,
    "in": floor_in,
    "mirror": floor_mirrored,
    "seen": floor_seen,
    "join": floor_joined,
}
ANSWERS = {
    "show": text_shown,
    "holes": text_of_holes,
    "rank": text_of_rank,
    "faces": text_of_faces,
    "fewest": text_of_fewest,
    "most": text_of_most,
    "counts": text_of_counts,
    "alike": text_of_alike,
}


class Desk:
    """Floors kept by names."""

    def __init__(self):
        self.floors = {}
        self.earlier = []

    def say(self, row):
        """The answer to the row; NoRow, then NoName, then NoText, then what the stages refuse."""
        word, things = row_read(row)
        if word == "undo":
            return self.take_back()
        if word == "names":
            return " ".join(sorted(self.floors)) if self.floors else "none"
        found = self.with_floors(FORMS[word], things)
        if word in ANSWERS:
            answer = ANSWERS[word]
            return answer(found)
        return self.change(word, things[0], found)

    def take_back(self):
        """Takes back the last change, or NoRow."""
        if not self.earlier:
            raise NoRow("nothing is left to be taken back")
        self.floors = self.earlier.pop()
        return "ok"

    def with_floors(self, form, things):
        """The things with floors in the place of the names by which they are kept, or NoName."""
        found = []
        for kind, thing in zip(form, things):
            if kind == "kept" and thing not in self.floors:
                raise NoName("no floor is kept by this name")
            found.append(self.floors[thing] if kind == "kept" else thing)
        return found

    def change(self, word, name, found):
        """Keeps by the name what the row makes of what was found, or nothing any more."""
        # What was kept so far stays as it is: for undo, and where the row is refused.
        floors = dict(self.floors)
        if word == "drop":
            del floors[name]
        else:
            deed = DEEDS[word]
            floors[name] = deed(found)
        self.earlier.append(self.floors)
        self.floors = floors
        return "ok"
