"""treesapart.desk: rows, their answers, and which refusal goes first."""

import random

from tests.papers import Papers
from tests.things import odd_things
from tests.webs import GREAT
from treesapart.desk import Desk
from treesapart.errors import (NoCount, NoDeed, NoMost, NoName, NoPlace, NoRow, NoSpreads, NoSuch, NoTrees, NoWeb,
                               TooMany)
from treesapart.groves import Grove

# How many numbers stand behind the name in each row.
ROWS = {"grove": 1, "lanes": 1, "put": 3, "take": 1, "strengthen": 2, "back": 0, "again": 0, "show": 0,
        "most": 1, "trees": 2, "least": 3}
NO_NAMES = ["abcdefghi", "A", "aB", "a1", "1", "0", "-", "a-", "a_b", "a,b", "a.", "~", "!", "a\n", "\n", "\na", "a\nb"]
NO_NUMBERS = ["a", "x1", "1x", "01", "00", "007", "-1", "-0", "+1", "1,2", "-", "1.0", "0x1", "1_0", "1\n", "\n1", "\n",
              "~", "'1'", "1" * 61, "9" * 70, "1" + "0" * 60, "0" * 2, "0" * 60]


def row_of(word, name="a", numbers=None):
    """A row with so many numbers as the first word wants."""
    return " ".join([word, name] + (numbers or ["1"] * ROWS[word]))


def said(desk, *rows):
    return [desk.say(row) for row in rows]


class Desks(Papers):
    def assert_said(self, desk, *pairs):
        """Each row is answered with its text."""
        for row, answer in pairs:
            told = desk.say(row)
            self.assertIs(type(told), str)
            self.assertEqual(told, answer, row)

    def kept_desk(self):
        """A desk with a grove and lanes, behind each of which stands one deed that was undone."""
        desk = Desk()
        for first, name in (("grove", "a"), ("lanes", "b")):
            self.assert_said(desk, (f"{first} {name} 3", "ok"), (f"put {name} 0 1 2", "0"),
                             (f"put {name} 2 1 5", "1"), (f"take {name} 0", "ok"), (f"back {name}", "ok"))
        return desk

    def assert_kept(self, desk):
        """The desk is as it was, and no deed came in between."""
        self.assert_said(desk, ("show a", "0:0-1*2 1:1-2*5"), ("show b", "0:0>1*2 1:2>1*5"))
        for name in ("a", "b"):
            self.assert_said(desk, (f"again {name}", "ok"), (f"back {name}", "ok"))


class RowsTest(Desks):
    def test_a_grove(self):
        self.assert_said(
            Desk(), ("grove a 3", "ok"), ("show a", "-"), ("most a 0", "0"), ("put a 2 1 3", "0"), ("show a", "0:1-2*3"),
            ("trees a 1 0", "parting 0 1,2"), ("put a 0 1 2", "1"), ("trees a 1 2", "trees 0,1"),
            ("trees a 2 0", "trees 0,1 0,1"), ("most a 1", "2"), ("least a 2 0 0", "2"), ("least a 1 1 2", "1"),
            ("put a 2 0 1", "2"), ("least a 1 1 0", "0"), ("most a 0", "3"), ("take a 1", "ok"),
            ("show a", "0:1-2*3 2:0-2*1"), ("trees a 1 0", "trees 0,2"), ("back a", "ok"),
            ("show a", "0:1-2*3 1:0-1*2 2:0-2*1"), ("again a", "ok"), ("strengthen a 0 0", "ok"),
            ("show a", "0:1-2*0 2:0-2*1"), ("most a 0", "0"), ("back a", "ok"), ("back a", "ok"), ("back a", "ok"),
            ("put a 0 2 7", "3"), ("show a", "0:1-2*3 1:0-1*2 3:0-2*7"))

    def test_lanes(self):
        self.assert_said(
            Desk(), ("lanes b 3", "ok"), ("show b", "-"), ("put b 2 1 3", "0"), ("put b 1 0 2", "1"),
            ("show b", "0:2>1*3 1:1>0*2"), ("most b 0", "0"), ("most b 2", "2"), ("trees b 2 2", "spreads 0,1 0,1"),
            ("trees b 3 2", "places 0"), ("least b 2 0 2", "2"), ("put b 2 0 4", "2"),
            ("least b 2 1 2", "0"), ("least b 1 0 2", "1"), ("most b 2", "3"), ("take b 0", "ok"), ("most b 2", "0"),
            ("trees b 1 2", "places 1"), ("back b", "ok"), ("most b 2", "3"), ("again b", "ok"),
            ("show b", "1:1>0*2 2:2>0*4"), ("put b 2 1 1", "3"), ("put b 0 1 5", "4"), ("take b 2", "ok"),
            ("trees b 1 2", "spreads 1,3"), ("take b 3", "ok"), ("trees b 1 2", "places 0,1"))

    def test_one_place(self):
        self.assert_said(
            Desk(), ("grove a 1", "ok"), ("trees a 1 0", "trees -"), ("trees a 3 0", "trees - - -"), ("show a", "-"),
            ("lanes b 1", "ok"), ("trees b 1 0", "spreads -"), ("trees b 12 0", "spreads" + " -" * 12), ("show b", "-"))

    def test_a_parting_of_several_parts(self):
        self.assert_said(Desk(), ("grove a 4", "ok"), ("put a 0 3 9", "0"), ("put a 1 2 9", "1"),
                         ("trees a 2 3", "parting 0,3 1,2"))
        self.assert_said(Desk(), ("grove a 3", "ok"), ("put a 0 1 1", "0"), ("put a 1 2 1", "1"),
                         ("put a 0 2 1", "2"), ("trees a 2 1", "parting 0 1 2"))

    def test_great_strengths(self):
        great = "9" * 60
        desk = Desk()
        self.assert_said(desk, ("grove a 2", "ok"), (f"put a 0 1 {great}", "0"), (f"put a 1 0 {great}", "1"),
                         ("show a", f"0:0-1*{great} 1:0-1*{great}"), ("most a 0", str(2 * int(great))),
                         ("least a 12 0 1", "0"), ("strengthen a 0 0", "ok"), ("most a 1", great),
                         ("least a 12 1 0", "12"), ("trees a 2 0", "trees 1 1"))
        self.assert_said(desk, ("lanes a 2", "ok"), (f"put a 1 0 {great}", "0"), ("most a 1", great), ("most a 0", "0"))

    def test_names_of_one_and_eight_letters(self):
        desk = Desk()
        for name in ("a", "z", "abcdefgh", "zzzzzzzz", "grove", "show", "ok", "lanes"):
            self.assert_said(desk, (f"grove {name} 2", "ok"), (f"put {name} 0 1 1", "0"), (f"show {name}", "0:0-1*1"),
                             (f"put {name} 0 1 1", "1"))

    def test_groves_by_several_names_by_turns(self):
        rng = random.Random(161)
        desk, groves = Desk(), {}
        for at, name in enumerate(("a", "bb", "abcdefgh", "z")):
            self.assert_said(desk, (f"{'lanes' if at % 2 else 'grove'} {name} {at + 2}", "ok"))
            groves[name] = Grove(at + 2, at % 2 == 1)
        for _ in range(200):
            name = rng.choice(list(groves))
            grove = groves[name]
            a, b = rng.sample(range(grove.places), 2)
            deed = rng.choice(("put", "take", "strengthen", "back", "again"))
            number, strength = rng.randrange(8), rng.randint(0, 9)
            handed = {"put": (a, b, strength), "take": (number,), "strengthen": (number, strength)}.get(deed, ())
            try:
                wanted = getattr(grove, deed)(*handed)
            except (NoSuch, NoDeed) as refusal:
                self.assert_refused(type(refusal), desk.say, row_of(deed, name, [str(one) for one in handed]))
            else:
                answer = "ok" if wanted is None else str(wanted)
                self.assert_said(desk, (row_of(deed, name, [str(one) for one in handed]), answer))
            for one in groves:
                sign = ">" if groves[one].one_way else "-"
                shown = " ".join(f"{n}:{x}{sign}{y}*{s}" for n, x, y, s in groves[one].ties()) or "-"
                self.assert_said(desk, (f"show {one}", shown), (f"most {one} 1", str(groves[one].most(1))))

    def test_one_made_anew_by_a_name_in_use(self):
        desk = self.kept_desk()
        self.assert_said(desk, ("lanes a 2", "ok"), ("show a", "-"), ("put a 1 0 4", "0"), ("show a", "0:1>0*4"),
                         ("show b", "0:0>1*2 1:2>1*5"), ("grove b 9", "ok"), ("show b", "-"), ("put b 8 0 1", "0"),
                         ("show b", "0:0-8*1"), ("show a", "0:1>0*4"))
        self.assert_said(desk, ("grove a 2", "ok"))
        self.assert_refused(NoDeed, desk.say, "back a")
        self.assert_refused(NoDeed, desk.say, "again a")

    def test_two_desks_are_apart(self):
        first, second = Desk(), Desk()
        self.assert_said(first, ("grove a 2", "ok"), ("put a 0 1 1", "0"))
        self.assert_refused(NoName, second.say, "show a")
        self.assert_said(second, ("lanes a 3", "ok"), ("show a", "-"))
        self.assert_said(first, ("show a", "0:0-1*1"))

    def test_asked_again_the_same_is_told(self):
        desk = self.kept_desk()
        rows = ["show a", "show b", "most a 0", "most b 2", "trees a 2 0", "trees b 1 0", "least a 1 0 1"]
        first = said(desk, *rows)
        self.assertEqual(said(desk, *rows[::-1]), first[::-1])
        self.assert_kept(desk)


class NoRowTest(Desks):
    def test_what_is_no_text(self):
        desk = self.kept_desk()
        for thing in odd_things() + [0, 1, GREAT, b"show a", ["show a"], ["show", "a"], ("show", "a"), {"show": "a"}]:
            if not isinstance(thing, str):
                self.assert_refused(NoRow, desk.say, thing)
        self.assert_kept(desk)

    def test_another_first_word(self):
        desk = self.kept_desk()
        for row in ("", "a", "show", "shows a", "Show a", "SHOW a", "tie a", "least", "ok", "grove\n", "show\na",
                    "show\n a", "\nshow a", "groves a 3", "lane a 3", "web a 3", "undo a", "say a", "a show", "1 a",
                    "-", "ties a", "woods a", "left a"):
            self.assert_refused(NoRow, desk.say, row)
        self.assert_kept(desk)

    def test_a_word_too_many_or_too_few(self):
        desk = self.kept_desk()
        for word in ROWS:
            row = row_of(word)
            for wrong in (row + " 1", row + " 1 1", row + " a", row.rsplit(" ", 1)[0], word):
                self.assert_refused(NoRow, desk.say, wrong)
        self.assert_kept(desk)

    def test_a_word_without_signs(self):
        desk = self.kept_desk()
        for word in ROWS:
            row = row_of(word)
            wrongs = [" " + row, row + " ", "  " + row, row + "  ", " " + row + " "]
            wrongs += [row[:at] + " " + row[at:] for at, sign in enumerate(row) if sign == " "]
            words = row.split(" ")
            # As many words as are wanted, but one of them is without signs.
            wrongs += [" ".join(words[:at] + [""] + words[at + 1:]) for at in range(len(words))]
            for wrong in wrongs:
                self.assert_refused(NoRow, desk.say, wrong)
        for row in (" ", "  ", "   "):
            self.assert_refused(NoRow, desk.say, row)
        self.assert_kept(desk)

    def test_no_number_where_one_is_wanted(self):
        desk = self.kept_desk()
        for word in ROWS:
            for at in range(ROWS[word]):
                for wrong in NO_NUMBERS:
                    numbers = ["1"] * ROWS[word]
                    numbers[at] = wrong
                    for name in ("a", "b", "none", "NONE"):
                        self.assert_refused(NoRow, desk.say, row_of(word, name, numbers))
        self.assert_kept(desk)

    def test_a_line_end_parts_no_words(self):
        desk = self.kept_desk()
        for row in ("show\na", "put a\n0 1 2", "put a 0\n1 2", "put a 0 1\n2", "put a 0 1 2\n", "most a 0\n",
                    "grove c\n3", "trees a 1 0\n", "take a\n0"):
            self.assert_refused(NoRow, desk.say, row)
        for row in ("show a\n", "back a\n", "again \na", "show a\nb", "put a\n 0 1 2", "grove c\n 3"):
            self.assert_refused(NoName, desk.say, row)
        self.assert_kept(desk)

    def test_sixty_figures(self):
        for figures in ("1" * 60, "9" * 60, "1" + "0" * 59, "0"):
            desk = Desk()
            self.assert_said(desk, ("grove a 2", "ok"), (f"put a 0 1 {figures}", "0"), ("show a", f"0:0-1*{figures}"),
                             (f"strengthen a 0 {figures}", "ok"), ("most a 0", figures))
        for figures in ("1" * 60, "9" * 60):
            self.assert_refused(NoPlace, desk.say, f"put a {figures} 1 1")
            self.assert_refused(NoSuch, desk.say, f"take a {figures}")
            self.assert_refused(NoCount, desk.say, f"trees a {figures} 0")
            self.assert_refused(NoWeb, desk.say, f"grove a {figures}")
        for figures in ("1" * 61, "0" * 61, "0" * 60 + "1", "1" + "0" * 60):
            for row in (f"put a 0 1 {figures}", f"put a {figures} 1 1", f"take a {figures}", f"grove a {figures}"):
                self.assert_refused(NoRow, desk.say, row)


class NoNameTest(Desks):
    def test_words_that_are_no_names(self):
        desk = self.kept_desk()
        for word in ROWS:
            for name in NO_NAMES:
                self.assert_refused(NoName, desk.say, row_of(word, name))
        self.assert_kept(desk)

    def test_a_grove_is_needed(self):
        desk = self.kept_desk()
        for word in ROWS:
            if word not in ("grove", "lanes"):
                for name in ("c", "aa", "ab", "abcdefgh", "z"):
                    self.assert_refused(NoName, desk.say, row_of(word, name))
        self.assert_kept(desk)

    def test_it_goes_before_what_the_rows_point_refuses(self):
        desk = self.kept_desk()
        for name in ("none", "NONE"):
            for row in (f"put {name} 9 9 1", f"take {name} 99", f"strengthen {name} 99 1", f"most {name} 9",
                        f"trees {name} 0 9", f"least {name} 0 99 9", f"back {name}", f"again {name}"):
                self.assert_refused(NoName, desk.say, row)
        for row in ("grove NONE 0", "lanes abcdefghi 10", "grove a1 99"):
            self.assert_refused(NoName, desk.say, row)
        self.assert_kept(desk)

    def test_a_grove_that_was_refused_is_not_kept(self):
        desk = Desk()
        for word in ("grove", "lanes"):
            self.assert_refused(NoWeb, desk.say, f"{word} c 0")
            self.assert_refused(NoWeb, desk.say, f"{word} c 10")
            self.assert_refused(NoName, desk.say, "show c")


class PointsTest(Desks):
    def test_what_the_rows_point_refuses(self):
        desk = self.kept_desk()
        for kind, rows in (
                (NoWeb, ("grove a 0", "lanes a 10", "grove b 11", "lanes c 0")),
                (NoPlace, ("put a 3 0 1", "put a 0 3 1", "put a 1 1 1", "put b 9 9 9", "most a 3", "most b 3",
                           "trees a 0 3", "trees b 13 9", "least a 0 9 3", "least b 13 9 3")),
                (NoSuch, ("take a 2", "take b 2", "strengthen a 2 1", "strengthen b 9 1", "least a 1 2 0",
                          "least b 12 2 0")),
                (NoCount, ("trees a 0 0", "trees a 13 0", "trees b 0 2", "trees b 13 2", "least a 0 9 0",
                           "least b 13 9 0"))):
            for row in rows:
                self.assert_refused(kind, desk.say, row)
        self.assertEqual(self.assert_refused(NoTrees, desk.say, "least a 3 0 0").parting, [[0], [1, 2]])
        self.assertEqual(self.assert_refused(NoSpreads, desk.say, "least b 1 0 0").places, [2])
        self.assert_kept(desk)

    def test_no_most_no_deed_and_too_many(self):
        for word, many in (("grove", 30), ("lanes", 60)):
            desk = Desk()
            self.assert_said(desk, (f"{word} a 1", "ok"))
            self.assert_refused(NoMost, desk.say, "most a 0")
            self.assert_refused(NoPlace, desk.say, "most a 1")
            self.assert_refused(NoDeed, desk.say, "back a")
            self.assert_refused(NoDeed, desk.say, "again a")
            self.assert_said(desk, (f"{word} a 2", "ok"))
            self.assert_said(desk, *[("put a 0 1 1", str(at)) for at in range(many)])
            self.assert_refused(TooMany, desk.say, "put a 0 1 1")
            self.assert_said(desk, ("most a 0", str(many)), ("trees a 1 0", desk.say("trees a 1 0")))
