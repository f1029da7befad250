import copy
import itertools
import re

from holefloor.errors import NoText
from holefloor.texts import read, written
from tests.refusing import LONG, STRANGE, Refusing
from tests.samples import (
    LONG_PATH, LOOP, LOOPS_24, NO_TIES, ONE_PLACE, SCATTERED, SMALL_WEBS, THETA, TWO_LOOPS, WEBS, floors,
    orders_by_hand,
)

NUMBER = re.compile(r"(0|[1-9][0-9]{0,59})\Z")
# Four places, the second of them without ends.
WEB = (4, ((0, 2), (2, 3), (3, 3), (2, 0)))
ORDER = ((0, 7), (), (1, 6, 2), (3, 5, 4))
ROWS = ("places 4", "tie 0 2", "tie 2 3", "tie 3 3", "tie 2 0", "at 0 0 7", "at 2 1 6 2", "at 3 3 5 4")


def first_wrong_row(text):
    """The row that NoText is to tell, None of a floor's text; each row is looked at by itself, against all ahead."""
    rows = text.split("\n")
    for at in range(len(rows)):
        if not can_stand(rows[:at], rows[at]):
            return at + 1
    many = int(rows[0].split(" ")[1])
    tied = {word for row in rows if row.startswith("tie") for word in row.split(" ")[1:]}
    told = {row.split(" ")[1] for row in rows if row.startswith("at")}
    assert all(int(word) < many for word in tied)
    return len(rows) + 1 if tied - told else None


def can_stand(ahead, row):
    word, numbers = row.split(" ")[0], row.split(" ")[1:]
    if not all(NUMBER.match(number) for number in numbers):
        return False
    numbers = [int(number) for number in numbers]
    if not ahead:
        return word == "places" and len(numbers) == 1 and 1 <= numbers[0] <= 25
    many = int(ahead[0].split(" ")[1])
    ats = [int(other.split(" ")[1]) for other in ahead if other.startswith("at")]
    ties = [other.split(" ")[1:] for other in ahead if other.startswith("tie")]
    if word == "tie":
        return not ats and len(ties) < 24 and len(numbers) == 2 and max(numbers) < many
    if word != "at" or len(numbers) < 2 or numbers[0] >= many or numbers[0] <= max(ats, default=-1):
        return False
    ends = [2 * tie + k for tie, pair in enumerate(ties) for k in (0, 1) if int(pair[k]) == numbers[0]]
    return sorted(numbers[1:]) == ends and numbers[1] == ends[0]


class Writing(Refusing):
    def test_known_texts(self):
        self.assertEqual(written(ONE_PLACE, ((),)), "places 1")
        self.assertEqual(written(NO_TIES, ((),) * 25), "places 25")
        self.assertEqual(written(LOOP, ((0, 1),)), "places 1\ntie 0 0\nat 0 0 1")
        self.assertEqual(written(SCATTERED, ((), (2, 3), (), (0, 1))), "places 4\ntie 3 3\ntie 1 1\nat 1 2 3\nat 3 0 1")
        self.assertEqual(written(THETA, ((0, 4, 3), (1, 2, 5))),
                         "places 2\ntie 0 1\ntie 1 0\ntie 0 1\nat 0 0 4 3\nat 1 1 2 5")
        self.assertEqual(written(WEB, ORDER), "\n".join(ROWS))

    def test_what_is_written_is_read_to_the_floor(self):
        for web in SMALL_WEBS:
            for order in orders_by_hand(web)[::3]:
                self.assert_read_back(web, order)
        for web, order in floors(WEBS):
            self.assert_read_back(web, order)

    def assert_read_back(self, web, order):
        text = written(web, order)
        self.assertIs(type(text), str)
        self.assertRegex(text, r"\A[ -~\n]*\Z")
        told = read(text)
        self.assertEqual(told, (web, order))
        self.assertEqual(repr(told), repr((web, order)))
        self.assertIsNone(first_wrong_row(text))
        self.assertEqual(read(text), told)

    def test_every_small_text_is_written_of_one_floor(self):
        texts = [written(web, order) for web in SMALL_WEBS for order in orders_by_hand(web)]
        self.assertEqual(len(set(texts)), len(texts))

    def test_what_is_handed_in_stays_as_it_was(self):
        things = (WEB, ORDER)
        before = copy.deepcopy(things)
        self.assertEqual(written(things[0], things[1]), written(things[0], things[1]))
        self.assertEqual(things, before)


class Reading(Refusing):
    def assert_no_text(self, text, row):
        self.assert_refused(NoText, read, text)
        try:
            read(text)
        except NoText as error:
            self.assertEqual(error.row, row, repr(text))
            self.assertIs(type(error.row), int)
        if isinstance(text, str):
            self.assertEqual(first_wrong_row(text), row, repr(text))

    def test_what_is_no_text(self):
        for thing in STRANGE + (0, 1, -1, [], (), ["places 1"], ("places 1",), b"places 1", {"places": 1}) + LONG:
            if not isinstance(thing, str):
                self.assert_no_text(thing, 1)

    def test_no_signs(self):
        self.assert_no_text("", 1)
        self.assert_no_text(" ", 1)
        self.assert_no_text("\n", 1)
        self.assert_no_text("\nplaces 1", 1)

    def test_a_first_row_that_is_no_places(self):
        for row in (
            "place 1", "Places 1", "PLACES 1", "places", "places ", "places 1 ", " places 1", "places  1", "places 1 1",
            "places1", "places\t1", "1", "1 places", "tie 0 0", "at 0 0 1", "at 0", "tie", "floor", "places one",
            "places +1", "places -1", "places 1.", "places 01", "places 00", "places 0", "places 26", "places 025",
            "places 1,", "places 1_0", "places 1\r", "places 1\x0b", "places \u0661", "places \u00b9", "places \uff11",
            "places " + "1" * 60, "places " + "1" * 61, "places " + "0" * 61, "places 1" + "0" * 1900,
        ):
            self.assert_no_text(row, 1)
            self.assert_no_text(row + "\n" + "\n".join(ROWS[1:]), 1)
            self.assert_no_text(row + "\n", 1)
        for many in range(1, 26):
            self.assertEqual(read(f"places {many}"), ((many, ()), ((),) * many))

    def test_a_second_places(self):
        for at in range(1, len(ROWS) + 1):
            for row in ("places 4", "places 1", "places", "places 26"):
                self.assert_no_text("\n".join(ROWS[:at] + (row,) + ROWS[at:]), at + 1)

    def test_rows_of_no_such_form_at_every_place(self):
        wrong = (
            "", " ", "  ", "tie", "at", "tie 0", "tie 0 ", "tie  0 0", "tie 0  0", " tie 0 0", "tie 0 0 ", "tie 0 0 0",
            "tie0 0", "Tie 0 0", "TIE 0 0", "ties 0 0", "tie 0,0", "tie a b", "tie 00 0", "tie 0 00", "tie 0 01",
            "tie -1 0", "tie 0 -0", "tie +0 0", "tie 0 4", "tie 4 0", "tie 25 0", "tie 0 25", "at 0", "at ", "at 0 ",
            "at  0 0 7", "at 0  0 7", "at 0 0 7 ", " at 0 0 7", "at 0 0 07", "at 00 0 7", "at 0 0,7", "At 0 0 7",
            "at 1", "at 4", "at 4 0", "at 25 0", "at 1 0", "at x", "at 0 x", "at 0 0 7 7", "at 0 0 0 7", "at 0 7 0",
            "at 0 7", "at 0 0 7 6", "at 0 0 7 8", "at 2 2 1 6", "at 3 4 3 5", "at 3 5 4 3", "at 3 3 5 4 3", "at 3 3 5",
            "# no", "names", "0", "tie 0 \u0660", "at 0 0 \u0667", "tie 0 \u00b2", "tie 0 0\r", "tie\t0\t0",
            "tie 0 " + "0" * 61, "tie " + "1" * 61 + " 0", "tie 0 " + "9" * 60, "at 0 0 " + "7" * 61,
            "at 0 0 " + "7" * 60, "at " + "1" * 61 + " 0 7",
        )
        for at in range(1, len(ROWS) + 1):
            for row in wrong:
                self.assert_no_text("\n".join(ROWS[:at] + (row,) + ROWS[at:]), at + 1)
            for row in wrong[:8]:
                self.assert_no_text("\n".join(ROWS[:at] + (row,)), at + 1)
                self.assert_no_text("\n".join(ROWS[:at] + (row, row) + ROWS[at:]), at + 1)

    def test_a_line_feed_at_the_end(self):
        for web, order in floors(SMALL_WEBS, most=2):
            text = written(web, order)
            rows = len(text.split("\n"))
            self.assert_no_text(text + "\n", rows + 1)
            self.assert_no_text(text + "\n\n", rows + 1)
            self.assert_no_text(text + " ", rows)
            self.assert_no_text("\n" + text, 1)
            self.assert_no_text(" " + text, 1)

    def test_a_tie_behind_an_at(self):
        self.assert_no_text("\n".join(ROWS[:6] + ("tie 0 0",) + ROWS[6:]), 7)
        self.assert_no_text("\n".join(ROWS + ("tie 1 1",)), 9)
        self.assert_no_text("places 3\ntie 2 2\nat 2 0 1\ntie 0 1", 4)
        self.assert_no_text("places 1\ntie 0 0\nat 0 0 1\ntie 0 0\nat 0 0 1 2 3", 4)

    def test_24_ties_and_more(self):
        text = written(LOOPS_24, (tuple(range(48)),))
        self.assertEqual(read(text), (LOOPS_24, (tuple(range(48)),)))
        rows = text.split("\n")
        self.assert_no_text("\n".join(rows[:25] + ["tie 0 0"] + rows[25:]), 26)
        self.assert_no_text("\n".join(rows[:25] + ["tie 0 0"]), 26)
        self.assert_no_text("\n".join(rows[:25] + ["tie 0 1", "tie 0 0"]), 26)
        self.assert_no_text("\n".join(["places 2"] + ["tie 0 1"] * 30), 26)

    def test_an_at_of_a_place_not_greater_than_the_one_ahead(self):
        self.assert_no_text("\n".join(ROWS[:6] + ROWS[5:]), 7)
        self.assert_no_text("\n".join(ROWS[:5] + (ROWS[6], ROWS[5], ROWS[7])), 7)
        self.assert_no_text("\n".join(ROWS[:5] + (ROWS[5], ROWS[7], ROWS[6])), 8)
        self.assert_no_text("\n".join(ROWS + (ROWS[7],)), 9)
        self.assert_no_text("\n".join(ROWS + (ROWS[5],)), 9)

    def test_an_at_ahead_of_the_ties(self):
        self.assert_no_text("places 1\nat 0 0 1\ntie 0 0", 2)
        self.assert_no_text("places 1\ntie 0 0\nat 0 0 1 2 3\ntie 0 0", 3)

    def test_places_without_a_row(self):
        for missing in ((5,), (6,), (7,), (5, 6), (6, 7), (5, 7), (5, 6, 7)):
            rows = [row for at, row in enumerate(ROWS) if at not in missing]
            self.assert_no_text("\n".join(rows), len(rows) + 1)
        self.assert_no_text("places 1\ntie 0 0", 3)
        self.assert_no_text("places 2\ntie 0 1", 3)
        self.assert_no_text("places 2\ntie 0 1\nat 0 0", 4)
        self.assert_no_text("places 2\ntie 0 1\nat 1 1", 4)
        self.assertEqual(read("places 2\ntie 0 1\nat 0 0\nat 1 1"), ((2, ((0, 1),)), ((0,), (1,))))

    def test_an_at_passes_by_places_without_ends(self):
        self.assertEqual(read("\n".join(ROWS)), (WEB, ORDER))
        self.assertEqual(read("places 25\ntie 24 24\nat 24 0 1"), ((25, ((24, 24),)), ((),) * 24 + ((0, 1),)))
        self.assertEqual(read("places 25\ntie 0 0\nat 0 0 1"), ((25, ((0, 0),)), ((0, 1),) + ((),) * 24))

    def test_ends_begun_with_another_one(self):
        self.assert_no_text("places 1\ntie 0 0\ntie 0 0\nat 0 3 0 2 1", 4)
        self.assertEqual(read("places 1\ntie 0 0\ntie 0 0\nat 0 0 2 1 3"), (TWO_LOOPS, ((0, 2, 1, 3),)))

    def test_the_first_fault_alone_is_told(self):
        self.assert_no_text("places 4\ntie 0 2\ntie 9 9\nat 0 9\nplaces 1", 3)
        self.assert_no_text("places 4\ntie 0 2\nat 0 0\nat 0 0\ntie 9 9", 4)

    def test_all_texts_of_few_rows(self):
        rows = ("places 1", "places 2", "tie 0 0", "tie 0 1", "tie 1 1", "at 0 0", "at 0 0 1", "at 0 1 0", "at 1 1",
                "at 1 0 1", "at 0 0 2", "at 1 1 3", "at 0", "")
        met = []
        for many in (1, 2, 3, 4):
            for chosen in itertools.product(rows, repeat=many):
                text = "\n".join(chosen)
                row = first_wrong_row(text)
                if row is None:
                    met.append(text)
                    web, order = read(text)
                    self.assertEqual(written(web, order), text)
                elif many < 4 or chosen[0] == "places 2":
                    self.assert_no_text(text, row)
        self.assertEqual(sorted(met), [
            "places 1", "places 1\ntie 0 0\nat 0 0 1", "places 2", "places 2\ntie 0 0\nat 0 0 1",
            "places 2\ntie 0 1\nat 0 0\nat 1 1", "places 2\ntie 1 1\nat 1 0 1",
        ])

    def test_all_texts_of_five_rows_behind_the_same_first_ones(self):
        rows = ("tie 0 1", "tie 1 0", "at 0 0", "at 0 0 3", "at 0 0 2", "at 1 1", "at 1 1 2", "at 1 1 3", "places 2")
        for chosen in itertools.product(rows, repeat=4):
            text = "\n".join(("places 2",) + chosen)
            row = first_wrong_row(text)
            if row is None:
                self.assertEqual(written(*read(text)), text)
            else:
                self.assert_no_text(text, row)

    def test_one_sign_changed_put_in_or_left_out(self):
        text = "\n".join(ROWS)
        for at in range(len(text) + 1):
            for sign in " 0179taxy-\n":
                rest = text[at + 1:]
                for other in (text[:at] + sign + text[at:], text[:at] + sign + rest, text[:at] + rest):
                    row = first_wrong_row(other)
                    if row is None:
                        self.assertEqual(written(*read(other)), other)
                    else:
                        self.assert_no_text(other, row)

    def test_the_longest_path(self):
        order = orders_by_hand(LONG_PATH)[0]
        text = written(LONG_PATH, order)
        rows = text.split("\n")
        self.assertEqual(len(rows), 50)
        self.assert_no_text("\n".join(rows[:-1]), 50)
        self.assert_no_text("\n".join(rows[:-1] + ["at 24 46"]), 50)
        self.assert_no_text("\n".join(rows + ["at 25 0"]), 51)
