import itertools

from holefloor.alike import alike
from holefloor.changes import drawn_in, put_in, taken_out
from holefloor.counting import counts, fewest, most
from holefloor.desk import Desk
from holefloor.errors import Apart, FloorError, NoEnd, NoName, NoPlace, NoRow, NoText, NoTie, TooGreat, TooMany
from holefloor.faces import faces
from holefloor.holes import holes
from holefloor.joins import joined_at, orders_joined
from holefloor.numbers import orders_many
from holefloor.orders import mirrored
from holefloor.seen import seen
from holefloor.texts import read, written
from holefloor.webs import parts_of, rank_of
from tests.refusing import LONG, STRANGE, Refusing
from tests.samples import (
    FOUR_ALL, LOOP, LOOPS_24, NO_TIES, ONE_PLACE, ORDERS_960, ORDERS_1024, SCATTERED, SEVERAL, SMALL_WEBS, THETA,
    TWO_LOOPS, floors, orders_by_hand,
)

CROSSED = (TWO_LOOPS, ((0, 2, 1, 3),))
FLAT = (TWO_LOOPS, ((0, 1, 2, 3),))
FLAT_THETA = (THETA, ((0, 3, 4), (1, 5, 2)))
LONE = (SCATTERED, ((), (2, 3), (), (0, 1)))
CHANGES = ("put a 0 1", "out a 0", "in b 0", "mirror a", "drop a", "seen a b", "seen c b", "join a b 1 c 3",
           "join d a 0 a 0", "floor a\nplaces 3", "floor d\nplaces 3")
QUESTIONS = ("show a", "holes a", "rank a", "faces c", "fewest a", "most b", "counts b", "alike a b", "names")
# All rows with words in the place of their names and numbers.
FORMS = {
    "put": ("a", "0", "1"), "out": ("a", "0"), "in": ("b", "0"), "mirror": ("a",), "drop": ("a",), "undo": (),
    "seen": ("d", "a"), "join": ("d", "a", "0", "b", "0"), "show": ("a",), "holes": ("a",), "rank": ("a",),
    "faces": ("a",), "fewest": ("a",), "most": ("a",), "counts": ("a",), "alike": ("a", "b"), "names": (),
}


def desk_of(**named):
    desk = Desk()
    for name, (web, order) in named.items():
        desk.say(f"floor {name}\n{written(web, order)}")
    return desk


def usual_desk():
    """A desk that keeps two loops, three ties between two places, and a floor of several parts."""
    return desk_of(a=CROSSED, b=FLAT_THETA, c=LONE)


def kept(desk):
    """All that the desk keeps, as it tells it."""
    names = desk.say("names")
    return {name: desk.say(f"show {name}") for name in names.split(" ")} if names != "none" else {}


class Saying(Refusing):
    def assert_says(self, desk, row, answer):
        told = desk.say(row)
        self.assertEqual(told, answer, row)
        self.assertIs(type(told), str)

    def assert_desk_refuses(self, refusal, desk, row):
        before = kept(desk)
        self.assert_refused(refusal, desk.say, row)
        self.assertEqual(kept(desk), before, row)

    def assert_kept(self, desk, name, floor):
        self.assert_says(desk, f"show {name}", written(floor[0], floor[1]))


class Rows(Saying):
    def test_a_new_desk(self):
        desk = Desk()
        self.assert_says(desk, "names", "none")
        self.assert_desk_refuses(NoRow, desk, "undo")
        for word, words in FORMS.items():
            if words:
                self.assert_desk_refuses(NoName, desk, " ".join((word,) + words))

    def test_floor_and_show(self):
        for web, order in floors(SMALL_WEBS + (NO_TIES, LOOPS_24), most=3):
            desk = Desk()
            text = written(web, order)
            self.assert_says(desk, f"floor some\n{text}", "ok")
            self.assert_says(desk, "show some", text)
            self.assert_says(desk, "names", "some")

    def test_floor_in_the_place_of_one_that_was(self):
        desk = desk_of(a=CROSSED, b=FLAT)
        self.assert_says(desk, "floor a\nplaces 2", "ok")
        self.assert_says(desk, "show a", "places 2")
        self.assert_kept(desk, "b", FLAT)
        self.assert_says(desk, "names", "a b")

    def test_names(self):
        desk = Desk()
        for name in ("b", "abcdefgh", "z", "a", "none", "floor", "ab", "undo"):
            self.assert_says(desk, f"floor {name}\nplaces 1", "ok")
        self.assert_says(desk, "names", "a ab abcdefgh b floor none undo z")
        self.assert_says(desk, "show undo", "places 1")
        self.assert_says(desk, "drop floor", "ok")
        self.assert_says(desk, "names", "a ab abcdefgh b none undo z")

    def test_put(self):
        for web, order in floors(SMALL_WEBS, most=2):
            for one, other in itertools.product(range(2 * len(web[1])), repeat=2):
                desk = desk_of(x=(web, order))
                self.assert_says(desk, f"put x {one} {other}", "ok")
                self.assert_kept(desk, "x", put_in(web, order, one, other))

    def test_put_refused(self):
        desk = desk_of(a=CROSSED, c=LONE, e=(ONE_PLACE, ((),)), f=(LOOPS_24, (tuple(range(48)),)))
        for row in ("put a 4 0", "put a 0 4", "put a 9 9", "put c 4 0", "put e 0 0", "put f 48 0", "put f 0 48",
                    f"put a {LONG[0]} 0", f"put a 0 {LONG[0]}"):
            self.assert_desk_refuses(NoEnd, desk, row)
        self.assert_desk_refuses(TooGreat, desk, "put f 0 47")

    def test_out_and_in(self):
        for web, order in floors(SMALL_WEBS, most=2):
            for tie, (a, b) in enumerate(web[1]):
                desk = desk_of(x=(web, order))
                self.assert_says(desk, f"out x {tie}", "ok")
                self.assert_kept(desk, "x", taken_out(web, order, tie))
                desk = desk_of(x=(web, order))
                if a != b:
                    self.assert_says(desk, f"in x {tie}", "ok")
                    self.assert_kept(desk, "x", drawn_in(web, order, tie))
                else:
                    self.assert_desk_refuses(NoTie, desk, f"in x {tie}")
            desk = desk_of(x=(web, order))
            for number in (len(web[1]), 24, 25, LONG[0]):
                self.assert_desk_refuses(NoTie, desk, f"out x {number}")
                self.assert_desk_refuses(NoTie, desk, f"in x {number}")

    def test_mirror(self):
        for web, order in floors(SMALL_WEBS, most=4):
            desk = desk_of(x=(web, order), y=(web, order))
            self.assert_says(desk, "mirror x", "ok")
            self.assert_kept(desk, "x", (web, mirrored(order)))
            self.assert_kept(desk, "y", (web, order))
            self.assert_says(desk, "mirror x", "ok")
            self.assert_kept(desk, "x", (web, order))

    def test_drop(self):
        desk = usual_desk()
        self.assert_says(desk, "drop b", "ok")
        self.assert_says(desk, "names", "a c")
        self.assert_desk_refuses(NoName, desk, "show b")
        self.assert_desk_refuses(NoName, desk, "drop b")
        self.assert_says(desk, "drop a", "ok")
        self.assert_says(desk, "drop c", "ok")
        self.assert_says(desk, "names", "none")

    def test_seen(self):
        for web, order in floors(SMALL_WEBS, most=4):
            desk = desk_of(x=(web, order), y=CROSSED)
            for new in ("z", "y", "x"):
                self.assert_says(desk, f"seen {new} x", "ok")
                self.assert_kept(desk, new, seen(web, order))
            self.assert_says(desk, "names", "x y z")

    def test_seen_refused(self):
        web = (2, ((0, 0),) * 24)
        desk = desk_of(x=(web, (tuple(range(48)), ())), y=CROSSED)
        for new in ("x", "y", "z"):
            self.assert_desk_refuses(TooGreat, desk, f"seen {new} x")

    def test_join(self):
        those = list(floors((ONE_PLACE, LOOP, THETA, SCATTERED, FOUR_ALL), most=2))
        for (one, order), (other, its_order) in itertools.product(those, repeat=2):
            for place, its in itertools.product({0, one[0] - 1}, {0, other[0] - 1}):
                right = (joined_at(one, place, other, its), orders_joined(one, order, place, other, its_order, its))
                for new in ("x", "y", "z"):
                    desk = desk_of(x=(one, order), y=(other, its_order))
                    self.assert_says(desk, f"join {new} x {place} y {its}", "ok")
                    self.assert_kept(desk, new, right)
                    self.assertEqual(len(kept(desk)), 3 if new == "z" else 2)

    def test_a_floor_joined_to_itself(self):
        desk = desk_of(a=CROSSED)
        self.assert_says(desk, "join a a 0 a 0", "ok")
        self.assert_kept(desk, "a", ((1, ((0, 0),) * 4), ((0, 2, 1, 3, 4, 6, 5, 7),)))
        self.assert_says(desk, "holes a", "2")

    def test_join_refused(self):
        desk = desk_of(a=CROSSED, b=FLAT_THETA, f=(LOOPS_24, (tuple(range(48)),)), n=(NO_TIES, ((),) * 25))
        for row in ("join d a 1 b 0", "join d a 0 b 2", "join d b 2 b 0", f"join d a {LONG[0]} b 0", "join a f 1 f 0",
                    "join a f 0 f 1", "join n n 25 n 0", "join n n 0 n 25"):
            self.assert_desk_refuses(NoPlace, desk, row)
        for row in ("join d f 0 a 0", "join d a 0 f 0", "join a f 0 f 0", "join n n 0 n 0", "join d n 0 b 1"):
            self.assert_desk_refuses(TooGreat, desk, row)

    def test_numbers_told(self):
        for web, order in floors(SMALL_WEBS + (NO_TIES, LOOPS_24, ORDERS_960), most=2):
            desk = desk_of(x=(web, order))
            self.assert_says(desk, "holes x", str(holes(web, order)))
            self.assert_says(desk, "rank x", str(rank_of(web)))
            if orders_many(web) <= 960:
                self.assert_says(desk, "fewest x", str(fewest(web)[0]))
                self.assert_says(desk, "most x", str(most(web)[0]))
                self.assert_says(desk, "counts x", " ".join(str(many) for many in counts(web)))

    def test_known_answers(self):
        desk = desk_of(a=CROSSED, b=FLAT_THETA, c=LONE, k=(FOUR_ALL, orders_by_hand(FOUR_ALL)[0]))
        for row, answer in (
            ("holes a", "1"), ("rank a", "2"), ("faces a", "0,3,1,2"), ("fewest a", "0"), ("most a", "1"),
            ("counts a", "4 2"), ("holes b", "0"), ("rank b", "2"), ("faces b", "0,5 1,3 2,4"), ("counts b", "2 2"),
            ("holes c", "0"), ("rank c", "2"), ("faces c", "- - 0 1 2 3"), ("counts c", "1"), ("counts k", "2 14"),
            ("fewest k", "0"), ("most k", "1"), ("alike a a", "yes"), ("alike a b", "no"), ("alike b b", "yes"),
        ):
            self.assert_says(desk, row, answer)

    def test_faces(self):
        for web, order in floors(SMALL_WEBS + (NO_TIES,), most=4):
            desk = desk_of(x=(web, order))
            words = desk.say("faces x").split(" ")
            told = [() if word == "-" else tuple(int(end) for end in word.split(",")) for word in words]
            self.assertEqual(told, faces(web, order))

    def test_counts_refused(self):
        desk = desk_of(x=(ORDERS_1024, orders_by_hand(ORDERS_1024)[0]))
        for word in ("counts", "fewest", "most"):
            self.assert_desk_refuses(TooMany, desk, f"{word} x")

    def test_alike(self):
        those = list(floors((ONE_PLACE, LOOP, TWO_LOOPS, THETA), most=6))
        for (one, order), (other, its_order) in itertools.product(those, repeat=2):
            desk = desk_of(x=(one, order), y=(other, its_order))
            answer = "no" if alike(one, order, other, its_order) is None else "yes"
            self.assert_says(desk, "alike x y", answer)
        desk = desk_of(e=(ONE_PLACE, ((),)), f=(ONE_PLACE, ((),)))
        self.assert_says(desk, "alike e f", "yes")

    def test_alike_refused(self):
        desk = usual_desk()
        for row in ("alike a c", "alike c a", "alike c c"):
            self.assert_desk_refuses(Apart, desk, row)

    def test_two_desks_side_by_side(self):
        one, other = usual_desk(), usual_desk()
        one.say("put a 0 0")
        one.say("drop b")
        self.assertEqual(kept(other), kept(usual_desk()))
        other.say("mirror b")
        self.assert_desk_refuses(NoName, one, "show b")
        one.say("undo")
        self.assert_kept(one, "b", FLAT_THETA)
        self.assert_kept(other, "b", (THETA, mirrored(FLAT_THETA[1])))
        self.assert_says(Desk(), "names", "none")


class NoRows(Saying):
    def test_what_is_no_text(self):
        for thing in STRANGE + (0, 1, -1, ["names"], ("names",), b"names", {"names": 1}, ["show", "a"]) + LONG:
            self.assert_desk_refuses(NoRow, usual_desk(), thing)

    def test_other_words(self):
        for row in ("", " ", "\n", "name", "Names", "NAMES", "names ", " names", "names\n", "\nnames", "names names",
                    "shows a", "show", "show ", "show  a", "show a ", " show a", "show a b", "show\ta", "a", "a show",
                    "redo", "undo ", "undo a", "undo 1", "undo\n", "quit", "floor", "floor a", "floor a places 1", "0"):
            self.assert_desk_refuses(NoRow, usual_desk(), row)

    def test_each_row_with_a_word_too_few_or_too_many(self):
        for word, words in FORMS.items():
            right = (word,) + words
            usual_desk().say(" ".join(right))
            for other in (right[:-1], right + ("a",), right + ("0",), right + ("",), ("",) + right, right[:1] + right):
                self.assert_desk_refuses(NoRow, usual_desk(), " ".join(other))
            for at in range(1, len(right)):
                self.assert_desk_refuses(NoRow, usual_desk(), " ".join(right[:at] + right[at + 1:]))
                self.assert_desk_refuses(NoRow, usual_desk(), " ".join(right[:at] + ("",) + right[at:]))

    def test_a_line_feed_but_in_floor(self):
        for word, words in FORMS.items():
            row = " ".join((word,) + words)
            for other in (row + "\n", "\n" + row, row + "\nplaces 1", row + " \n", row + "\n\n", word + "\n" + row):
                self.assert_desk_refuses(NoRow, usual_desk(), other)
            for at in range(1, len(words) + 1):
                other = " ".join((word,) + words[:at - 1]) + "\n" + " ".join(words[at - 1:])
                self.assert_desk_refuses(NoRow, usual_desk(), other)
                self.assert_desk_refuses(NoRow, usual_desk(), row.replace(" ", "\n"))

    def test_what_is_no_name(self):
        wrong = ("", "A", "aB", "abcdefghi", "a1", "1", "0", "a-", "a_b", "-", "a,b", "a.", "\u00e4", "\u0430", "ab\t",
                 "a\r", "a" * 60, "'a'")
        for name in wrong:
            for word, words in FORMS.items():
                for at, old in enumerate(words):
                    if old.isalpha():
                        row = " ".join((word,) + words[:at] + (name,) + words[at + 1:])
                        self.assert_desk_refuses(NoRow, usual_desk(), row)
            self.assert_desk_refuses(NoRow, usual_desk(), f"floor {name}\nplaces 1")

    def test_names_of_one_to_eight_letters(self):
        for many in range(1, 9):
            desk = usual_desk()
            name = "zyxwvuts"[:many]
            self.assert_says(desk, f"floor {name}\nplaces 1", "ok")
            self.assert_says(desk, f"show {name}", "places 1")
            self.assert_says(desk, f"seen {name} a", "ok")
            self.assert_says(desk, f"join {name} {name} 0 {name} 0", "ok")
            self.assert_says(desk, f"drop {name}", "ok")
        for letter in "abcdefghijklmnopqrstuvwxyz":
            self.assert_says(Desk(), f"floor {letter}\nplaces 1", "ok")

    def test_what_is_no_number(self):
        wrong = ("", "00", "01", "-0", "-1", "+1", "0.", "1_0", "a", "1a", "\u0661", "\u00b2", "0x1", "1" * 61,
                 "0" * 60, "1,", "1\r", "one")
        for number in wrong:
            for word, words in FORMS.items():
                for at, old in enumerate(words):
                    if old.isdigit():
                        row = " ".join((word,) + words[:at] + (number,) + words[at + 1:])
                        self.assert_desk_refuses(NoRow, usual_desk(), row)

    def test_floor_rows(self):
        for row in ("floor\nplaces 1", "floor \nplaces 1", "floor a \nplaces 1", "floor  a\nplaces 1",
                    " floor a\nplaces 1", "floor a b\nplaces 1", "floor A\nplaces 1", "floor abcdefghi\nplaces 1",
                    "floor a 0\nplaces 1", "Floor a\nplaces 1", "\nfloor a\nplaces 1", "floor\na\nplaces 1", "floor\n",
                    "floor a", "floor a b", "floor a places"):
            self.assert_desk_refuses(NoRow, usual_desk(), row)

    def test_texts_of_no_floor(self):
        for text, at in (("", 1), ("\n", 1), ("places", 1), ("places 1\n", 2), ("places 1\ntie 0 0", 3),
                         ("places 0", 1), ("places 1\ntie 0 1\nat 0 0 1", 2), (" places 1", 1), ("places 1\nundo", 2)):
            for name in ("a", "new"):
                desk = usual_desk()
                row = f"floor {name}\n{text}"
                self.assert_desk_refuses(NoText, desk, row)
                with self.assertRaises(NoText) as caught:
                    desk.say(row)
                self.assertEqual(caught.exception.row, at)

    def test_which_refusal_goes_first(self):
        desk = usual_desk()
        for row in ("show A", "put nobody 0 01", "put nobody x 0", "put nobody 0", "join A nobody 0 nobody 0",
                    "join d nobody 0 nobody x", "join d nobody 00 a 9", "seen D nobody", "alike nobody B",
                    "floor A\nno text", "floor abcdefghi\n", "show nobody\n", "in nobody -1"):
            self.assert_desk_refuses(NoRow, desk, row)
        for row in ("show nobody", "put nobody 99 99", "out nobody 99", "in nobody 99", "mirror nobody", "drop nobody",
                    "seen a nobody", "seen nobody nobody", "join d nobody 99 a 99", "join d a 99 nobody 99",
                    "join a nobody 0 nobody 0", "alike nobody c", "alike c nobody", "alike c nix", "counts nobody",
                    "holes nobody", "rank nobody", "faces nobody", "fewest nobody", "most nobody"):
            self.assert_desk_refuses(NoName, desk, row)
        for row, refusal in (("put a 4 9", NoEnd), ("join d a 1 b 2", NoPlace), ("alike c c", Apart)):
            self.assert_desk_refuses(refusal, desk, row)


class Undoing(Saying):
    def test_behind_each_row_that_changes(self):
        for row in CHANGES:
            desk = usual_desk()
            before = kept(desk)
            self.assert_says(desk, row, "ok")
            self.assertNotEqual(kept(desk), before, row)
            self.assert_says(desk, "undo", "ok")
            self.assertEqual(kept(desk), before, row)

    def test_several_in_a_row(self):
        desk = Desk()
        rows = ("floor a\n" + written(*CROSSED), "floor b\n" + written(*FLAT_THETA), "put a 0 3", "mirror a", "in b 1",
                "out b 0", "seen c a", "join b a 0 b 0", "floor a\nplaces 2", "drop c", "join c b 0 a 1", "seen a b")
        states = []
        for row in rows:
            states.append(kept(desk))
            self.assert_says(desk, row, "ok")
        for state in reversed(states):
            self.assert_says(desk, "undo", "ok")
            self.assertEqual(kept(desk), state)
        self.assert_desk_refuses(NoRow, desk, "undo")
        self.assert_desk_refuses(NoRow, desk, "undo")
        self.assert_says(desk, rows[0], "ok")
        self.assert_kept(desk, "a", CROSSED)

    def test_between_other_changes(self):
        desk = usual_desk()
        first = kept(desk)
        desk.say("put a 0 0")
        desk.say("undo")
        desk.say("mirror b")
        desk.say("drop c")
        desk.say("undo")
        desk.say("out a 1")
        desk.say("undo")
        desk.say("undo")
        self.assertEqual(kept(desk), first)
        self.assert_says(desk, "undo", "ok")
        self.assert_says(desk, "names", "a b")
        self.assert_says(desk, "undo", "ok")
        self.assert_says(desk, "undo", "ok")
        self.assert_says(desk, "names", "none")
        self.assert_desk_refuses(NoRow, desk, "undo")

    def test_behind_rows_that_change_nothing(self):
        desk = desk_of(e=(LOOP, ((0, 1),)))
        for row in ("mirror e", "floor e\n" + written(LOOP, ((0, 1),)), "mirror e"):
            self.assert_says(desk, row, "ok")
        for step in range(3):
            self.assert_says(desk, "undo", "ok")
            self.assert_kept(desk, "e", (LOOP, ((0, 1),)))
        self.assert_says(desk, "undo", "ok")
        self.assert_says(desk, "names", "none")
        self.assert_desk_refuses(NoRow, desk, "undo")

    def test_behind_refused_rows_and_questions(self):
        for row in CHANGES:
            desk = usual_desk()
            before = kept(desk)
            desk.say(row)
            for refused in ("put b 99 0", "out b 99", "in b 99", "drop nobody", "seen c nobody", "join d b 9 b 0",
                            "floor b\nplaces 26", "floor B\nplaces 1", "mirror nobody", "undo undo", "", None):
                with self.assertRaises(FloorError):
                    desk.say(refused)
            for question in QUESTIONS:
                try:
                    desk.say(question)
                except FloorError:
                    pass
            self.assert_says(desk, "undo", "ok")
            self.assertEqual(kept(desk), before)

    def test_questions_are_not_taken_back(self):
        desk = Desk()
        desk.say("names")
        self.assert_desk_refuses(NoRow, desk, "undo")
        desk.say("floor a\nplaces 1")
        desk.say("names")
        for word in ("show", "holes", "rank", "faces", "fewest", "most", "counts", "alike a"):
            desk.say(f"{word} a")
        self.assert_says(desk, "undo", "ok")
        self.assert_says(desk, "names", "none")
        self.assert_desk_refuses(NoRow, desk, "undo")

    def test_a_refused_undo_changes_nothing(self):
        desk = usual_desk()
        for step in range(3):
            self.assert_says(desk, "undo", "ok")
        self.assert_desk_refuses(NoRow, desk, "undo")
        desk.say("floor a\nplaces 1")
        self.assert_says(desk, "undo", "ok")
        self.assert_desk_refuses(NoRow, desk, "undo")


class Keeping(Saying):
    def test_answers_hang_on_what_is_kept_alone(self):
        desk, other = usual_desk(), usual_desk()
        for question in QUESTIONS:
            self.assertEqual(desk.say(question), desk.say(question))
        for question in reversed(QUESTIONS):
            self.assertEqual(desk.say(question), other.say(question))

    def test_a_floor_that_was_seen_or_joined_stays_when_the_first_one_goes(self):
        desk = usual_desk()
        desk.say("seen d a")
        desk.say("join e a 0 b 1")
        before = {name: desk.say(f"show {name}") for name in ("d", "e")}
        desk.say("put a 0 0")
        desk.say("drop b")
        self.assertEqual({name: desk.say(f"show {name}") for name in ("d", "e")}, before)

    def test_what_is_shown_may_be_handed_in_again(self):
        desk = usual_desk()
        for name in "abc":
            text = desk.say(f"show {name}")
            self.assert_says(desk, f"floor again\n{text}", "ok")
            self.assert_says(desk, "show again", text)
            web, order = read(text)
            self.assertEqual(desk.say("holes again"), str(holes(web, order)))
            if len(parts_of(web)) == 1:
                self.assert_says(desk, f"alike again {name}", "yes")

    def test_a_long_day(self):
        desk = desk_of(s=(SEVERAL, orders_by_hand(SEVERAL)[0]))
        floor = (SEVERAL, orders_by_hand(SEVERAL)[0])
        for step in range(12):
            desk.say(f"put s {step} {step * 5 % 12}")
            floor = put_in(floor[0], floor[1], step, step * 5 % 12)
            desk.say("mirror s")
            floor = (floor[0], mirrored(floor[1]))
            self.assert_kept(desk, "s", floor)
        for step in range(24):
            desk.say("undo")
        self.assert_kept(desk, "s", (SEVERAL, orders_by_hand(SEVERAL)[0]))
