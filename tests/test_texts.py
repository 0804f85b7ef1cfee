"""Shelves written and read (points 14, 15)."""

import random
import unittest

from tests.base import ShelfTest, put
from tests.calls import drawn_calls
from tests.plain import answer
from versionshelf.errors import BadText, Clash, ShelfError
from versionshelf.shelf import Shelf
from versionshelf.texts import read, written

FULL = """\
shelf 7 5 9
branch 1 of 0 at 2 alive
branch 2 of 1 at 4 dropped
branch 4 of 2 at 5 alive
cell 0 a 1 0
cell 0 a 2 999999
cell 0 gone 2 gone
cell 1 a 3 gone
cell 1 b 4 12
cell 2 a 5 7
cell 4 zzzzzzzz 7 1
mark 0 a 2
mark 0 gone 6
mark 2 a 5
mark 4 zzzzzzzz 7
hand 0 in 0 at 0
draft 0 a gone
draft 0 b 0
hand 3 in 2 at 4
hand 8 in 4 at 7
draft 8 zz 999999"""

# Each greatest number of nine figures, and a shelf that still can go on by some calls.
GREAT = """\
shelf 999999990 999999990 999999990
branch 999999980 of 0 at 999999970 alive
branch 999999989 of 999999980 at 999999989 dropped
cell 0 a 999999960 1
cell 0 a 999999965 2
cell 999999980 a 999999990 gone
mark 999999980 a 999999990
hand 999999988 in 999999989 at 999999990
hand 999999989 in 999999980 at 999999970
draft 999999989 a 3"""


class WrittenTest(ShelfTest):
    def test_without_calls(self):
        self.assertEqual(written(self.shelf), "shelf 0 1 0")

    def test_with_everything(self):
        put(self.shelf, 0, b=1, a=0)
        put(self.shelf, 0, a=None, gone=999999)
        first = self.shelf.begin(0)
        branch = self.shelf.fork(first)
        self.shelf.fork(self.shelf.begin(branch))
        self.shelf.drop(branch)
        self.shelf.write(first, "zz", 12)
        self.shelf.erase(first, "gone")
        put(self.shelf, 2, c=None)
        rows = [
            "shelf 3 3 5",
            "branch 1 of 0 at 2 dropped",
            "branch 2 of 1 at 2 alive",
            "cell 0 a 1 0",
            "cell 0 a 2 gone",
            "cell 0 b 1 1",
            "cell 0 gone 2 999999",
            "cell 2 c 3 gone",
            "mark 0 a 2",
            "mark 0 b 1",
            "mark 0 gone 2",
            "mark 2 c 3",
            "hand 2 in 0 at 2",
            "draft 2 gone gone",
            "draft 2 zz 12",
            "hand 3 in 1 at 2",
        ]
        self.assertEqual(written(self.shelf), "\n".join(rows))

    def test_numbers_in_order_not_words(self):
        base = self.shelf.begin(0)
        for turn in range(11):
            self.shelf.fork(base)
            self.shelf.twin(base)
        put(self.shelf, 10, a=1)
        put(self.shelf, 9, a=1)
        rows = [row.split(" ") for row in written(self.shelf).split("\n")]
        for word, numbers in (("branch", range(1, 12)), ("hand", range(12)), ("cell", (9, 10)), ("mark", (9, 10))):
            self.assertEqual([row[1] for row in rows if row[0] == word], [str(number) for number in numbers])

    def test_how_many_there_ever_were(self):
        for turn in range(3):
            hand = self.shelf.begin(0)
            self.shelf.drop(self.shelf.fork(hand))
            self.shelf.close(hand)
        self.shelf.sweep(0)
        self.assertEqual(written(self.shelf), "shelf 0 4 3")

    def test_writing_changes_nothing(self):
        shelf = read(FULL)
        for turn in range(3):
            self.assertEqual(written(shelf), FULL)


class ReadTest(unittest.TestCase):
    def test_the_same_text_again(self):
        for text in ("shelf 0 1 0", "shelf 3 1 0", "shelf 999999999 999999999 999999999", FULL, GREAT):
            self.assertEqual(written(read(text)), text)
            self.assertIs(type(read(text)), Shelf)

    def test_what_is_read(self):
        shelf = read(FULL)
        self.assertEqual(shelf.now, 7)
        self.assertEqual(shelf.standing(), ([0, 1, 2, 4], [2], [0, 3, 8]))
        self.assertEqual(shelf.cells()[1:3], [(0, "a", 2, 999999), (0, "gone", 2, None)])
        self.assertEqual(shelf.marked(), [(0, "a", 2), (0, "gone", 6), (2, "a", 5), (4, "zzzzzzzz", 7)])
        self.assertEqual([shelf.look(0, key) for key in "ab"], [None, 0])
        self.assertEqual([shelf.look(3, key) for key in "ab"], [None, 12])
        self.assertEqual(shelf.keys(8), ["a", "b", "zz", "zzzzzzzz"])
        self.assertEqual((shelf.fork(3), shelf.begin(4)), (5, 9))
        with self.assertRaises(Clash) as caught:
            shelf.commit(0)
        self.assertEqual(caught.exception.key, "a")

    def test_texts_read_twice_stand_apart(self):
        one, other = read(FULL), read(FULL)
        put(one, 0, a=5)
        one.sweep(3)
        self.assertEqual(written(other), FULL)

    def test_gone_on_with(self):
        for text in (FULL, GREAT):
            for seed in range(8):
                one, other = read(text), read(text)
                source = drawn_calls(7000 + seed)
                # So few calls that no number of the great shelf gets ten figures.
                for turn in range(9):
                    call = source.next_call(one) if turn != 4 else ("sweep", 2)
                    self.assertEqual(answer(other, *call), answer(one, *call))
                    one = read(written(one))
                    self.assertEqual(written(one), written(other))

    def test_great_numbers(self):
        shelf = read(GREAT)
        self.assertEqual(shelf.now, 999999990)
        self.assertEqual(shelf.look(999999989, "a"), 3)
        self.assertEqual(shelf.begin(999999980), 999999990)
        self.assertIsNone(shelf.look(999999990, "a"))
        self.assertEqual(shelf.fork(999999988), 999999990)
        with self.assertRaises(Clash):
            shelf.commit(999999989)
        self.assertEqual(put(shelf, 0, b=1), 999999991)
        self.assertEqual(read(written(shelf)).now, 999999991)

    def test_ten_figures_are_not_written(self):
        for text in ("shelf 999999999 1 0", "shelf 0 999999999 1\nhand 0 in 0 at 0", "shelf 0 1 999999999"):
            shelf = read(text)
            put(shelf, 0, a=1)
            if shelf.standing()[2]:
                shelf.fork(0)
            with self.assertRaises(ShelfError):
                written(shelf)

    def test_the_greatest_numbers_still_are(self):
        shelf = read("shelf 999999998 999999998 999999997\nhand 5 in 0 at 0")
        shelf.fork(5)
        put(shelf, 0, a=1)
        shelf.begin(0)
        rows = written(shelf).split("\n")
        self.assertEqual(rows[0], "shelf 999999999 999999999 999999999")
        self.assertEqual(rows[-1], "hand 999999998 in 0 at 999999999")
        self.assertEqual(written(read("\n".join(rows))), "\n".join(rows))


class RefusedTextsTest(unittest.TestCase):
    def refused(self, text):
        with self.subTest(text=text):
            with self.assertRaises(BadText) as caught:
                read(text)
            self.assertIs(type(caught.exception), BadText)

    def refused_rows(self, *rows, head="shelf 9 3 3"):
        self.refused("\n".join((head,) + rows))

    def accepted_rows(self, *rows, head="shelf 9 3 3"):
        text = "\n".join((head,) + rows)
        self.assertEqual(written(read(text)), text)

    def test_heads(self):
        for text in ("", " ", "\n", "shelf", "shelf 0", "shelf 0 1", "shelf 0 1 0 0", "Shelf 0 1 0", "shelve 0 1 0"):
            self.refused(text)
        for text in ("shelf 0 0 0", "shelf 0 -1 0", "shelf -1 1 0", "shelf 0 1 -1", "shelf a 1 0", "0 1 0"):
            self.refused(text)
        self.refused("branch 1 of 0 at 0 alive")
        self.refused("branch 1 of 0 at 0 alive\nshelf 0 2 0")
        self.refused("shelf 0 1 0\nshelf 0 1 0")

    def test_numbers(self):
        for word in ("", "00", "01", "007", "1000000000", "0000000001", "+1", "-1", "-0", "1.", "1e3", "1_0", "0x1"):
            self.number_refused(word)
        for word in ("\u0661", "\u00b2", "\uff11", "\t1", "1\t", "1\r", "one", "gone", "9" * 5000):
            self.number_refused(word)

    def number_refused(self, word):
        self.refused(f"shelf {word} 1 0")
        self.refused(f"shelf 0 {word} 0")
        self.refused(f"shelf 0 1 {word}")
        great = "shelf 999999999 999999999 999999999"
        for row in ("branch {} of 0 at 1 alive", "branch 5 of {} at 1 alive", "branch 5 of 0 at {} alive"):
            self.refused_rows(row.format(word), head=great)
        for row in ("cell {} a 1 1", "cell 0 a {} 1", "mark {} a 1", "mark 0 a {}"):
            self.refused_rows(row.format(word), head=great)
        for row in ("hand {} in 0 at 1", "hand 5 in {} at 1", "hand 5 in 0 at {}"):
            self.refused_rows(row.format(word), head=great)
        if word != "gone":
            self.refused_rows(f"cell 0 a 1 {word}", head=great)
            self.refused_rows("hand 1 in 0 at 0", f"draft 1 a {word}", head=great)
        self.refused_rows("hand 1 in 0 at 0", f"draft {word} a 1", head=great)

    def test_moments(self):
        self.accepted_rows("branch 1 of 0 at 9 alive", "cell 0 a 9 1", "mark 0 a 9", "hand 0 in 0 at 9")
        self.accepted_rows("branch 1 of 0 at 0 alive", "cell 0 a 1 1", "mark 0 a 1", "hand 0 in 0 at 0")
        for row in ("branch 1 of 0 at 10 alive", "cell 0 a 10 1", "mark 0 a 10", "hand 0 in 0 at 10"):
            self.refused_rows(row)
        for row in ("cell 0 a 0 1", "cell 0 a 0 gone", "mark 0 a 0"):
            self.refused_rows(row)

    def test_branches(self):
        self.accepted_rows("branch 1 of 0 at 0 alive", "branch 2 of 1 at 0 dropped")
        self.accepted_rows("branch 2 of 0 at 0 alive")
        for row in ("branch 3 of 0 at 0 alive", "branch 99 of 0 at 0 alive", "branch 0 of 0 at 0 alive"):
            self.refused_rows(row)
        for row in ("branch 1 of 1 at 0 alive", "branch 1 of 2 at 0 alive", "branch 2 of 1 at 0 alive"):
            self.refused_rows(row)
        self.refused_rows("branch 1 of 2 at 0 alive", "branch 2 of 0 at 0 alive")
        self.refused_rows("branch 2 of 0 at 0 alive", "branch 1 of 2 at 0 alive")
        self.refused_rows("branch 2 of 0 at 0 alive", "branch 1 of 0 at 0 alive")
        self.refused_rows("branch 1 of 0 at 0 alive", "branch 1 of 0 at 0 alive")
        self.refused_rows("branch 1 of 0 at 0 alive", "branch 1 of 0 at 0 dropped")
        for state in ("", "Alive", "dead", "gone", "alive ", " alive", "alive x"):
            self.refused_rows(f"branch 1 of 0 at 0 {state}")
        self.refused_rows("branch 1 of 0 at 0")
        for row in ("branch 1 over 0 at 0 alive", "branch 1 of 0 in 0 alive", "branches 1 of 0 at 0 alive"):
            self.refused_rows(row)

    def test_what_is_in_a_branch_that_is_not_there(self):
        for branch in (1, 2, 3, 50):
            self.refused_rows(f"cell {branch} a 1 1")
            self.refused_rows(f"mark {branch} a 1")
            self.refused_rows(f"hand 0 in {branch} at 1")

    def test_keys_and_values(self):
        for key in ("", "A", "abcdefghi", "a1", "1", "\u00e4", "a-b", "a\t", "\u017f"):
            self.refused_rows(f"cell 0 {key} 1 1")
            self.refused_rows(f"mark 0 {key} 1")
            self.refused_rows("hand 0 in 0 at 0", f"draft 0 {key} 1")
        for value in ("1000000", "999999999", "-1", "None", "Gone", "GONE", "go", ""):
            self.refused_rows(f"cell 0 a 1 {value}")
            self.refused_rows("hand 0 in 0 at 0", f"draft 0 a {value}")
        for value in ("0", "999999", "gone"):
            self.accepted_rows(f"cell 0 abcdefgh 1 {value}", "hand 0 in 0 at 0", f"draft 0 gone {value}")

    def test_cells_and_marks_in_order(self):
        head = ("branch 1 of 0 at 0 alive",)
        self.accepted_rows(*head, "cell 0 a 1 1", "cell 0 a 9 1", "cell 0 b 1 1", "cell 1 a 1 1", "mark 0 b 1", "mark 1 a 1")
        self.refused_rows("cell 0 a 1 1", "cell 0 a 1 1")
        self.refused_rows("cell 0 a 1 1", "cell 0 a 1 2")
        self.refused_rows("cell 0 a 2 1", "cell 0 a 1 1")
        self.refused_rows("cell 0 b 1 1", "cell 0 a 1 1")
        self.refused_rows("cell 0 b 1 1", "cell 0 a 2 1")
        self.refused_rows(*head, "cell 1 a 1 1", "cell 0 a 2 1")
        self.refused_rows("mark 0 a 1", "mark 0 a 1")
        self.refused_rows("mark 0 a 1", "mark 0 a 2")
        self.refused_rows("mark 0 b 1", "mark 0 a 1")
        self.refused_rows(*head, "mark 1 a 1", "mark 0 b 1")
        self.refused_rows("mark 0 a 1", "cell 0 a 1 1")
        self.refused_rows("cell 0 a 1 1", *head)
        self.refused_rows("cell 0 a 1 1", "cell 0 a 2 1", "cell 0 a 1 1")

    def test_hands_and_drafts(self):
        self.accepted_rows("hand 0 in 0 at 1", "draft 0 a 1", "draft 0 b gone", "hand 2 in 0 at 0", "draft 2 a 1")
        self.refused_rows("hand 3 in 0 at 1")
        self.refused_rows("hand 1 in 0 at 1", "hand 0 in 0 at 1")
        self.refused_rows("hand 1 in 0 at 1", "hand 1 in 0 at 1")
        self.refused_rows("hand 1 in 0 at 1", "hand 1 in 0 at 2")
        self.refused_rows("draft 0 a 1")
        self.refused_rows("draft 0 a 1", "hand 0 in 0 at 1")
        self.refused_rows("hand 0 in 0 at 1", "draft 1 a 1")
        self.refused_rows("hand 0 in 0 at 1", "hand 1 in 0 at 1", "draft 0 a 1")
        self.refused_rows("hand 0 in 0 at 1", "draft 0 b 1", "draft 0 a 1")
        self.refused_rows("hand 0 in 0 at 1", "draft 0 a 1", "draft 0 a 1")
        self.refused_rows("hand 0 in 0 at 1", "draft 0 a 1", "draft 0 a 2")
        self.refused_rows("hand 0 in 0 at 1", "draft 0 a 1", "hand 0 in 0 at 1")
        self.refused_rows("hand 0 in 0 at 1", "mark 0 a 1")
        self.refused_rows("hand 0 in 0 at 1", "cell 0 a 1 1")
        self.refused_rows("hand 0 in 0 at 1", "branch 1 of 0 at 0 alive")
        self.refused_rows("hand 0 at 0 in 1")
        self.refused_rows("mark 0 a 1", "branch 1 of 0 at 0 alive")

    def test_rows_of_other_forms(self):
        for row in ("", " ", "row", "cell", "cell 0 a 1", "cell 0 a 1 1 1", "mark 0 a", "mark 0 a 1 1", "Cell 0 a 1 1"):
            self.refused_rows(row)
        for row in ("hand 0 in 0 at 1 2", "hand 0 in 0", "hand 0 in 0 at", "draft 0 a", "# cell", "cell,0,a,1,1"):
            self.refused_rows(row)
            self.refused_rows("hand 0 in 0 at 1", row)

    def test_blanks_and_line_ends(self):
        for text in ("shelf 0 1 0", FULL):
            for strange in (" " + text, text + " ", "\n" + text, text + "\n", text + "\r", text + "\x00", "\ufeff" + text):
                self.refused(strange)
        places = [place for place, sign in enumerate(FULL) if sign in " \n"]
        for place in places:
            for sign in (" ", "\n"):
                self.refused(FULL[:place] + sign + FULL[place:])
            for sign in ("", "\t", "\r", "\u00a0", "\r\n", "\x0b", "\x85", "\u2028", "  "):
                self.refused(FULL[:place] + sign + FULL[place + 1:])
            self.refused(FULL[:place] + (" " if FULL[place] == "\n" else "\n") + FULL[place + 1:])

    def test_rows_doubled_and_out_of_order(self):
        rows = FULL.split("\n")
        for place in range(len(rows)):
            self.refused("\n".join(rows[:place] + [rows[place]] + rows[place:]))
            if place:
                swapped = rows[: place - 1] + [rows[place], rows[place - 1]] + rows[place + 1:]
                self.refused("\n".join(swapped))

    def test_rows_left_out(self):
        rows = FULL.split("\n")
        # The first row, branches over which others stand or in which something is, a hand with drafts.
        needed = {row for row in rows if row.split(" ")[0] in ("shelf", "branch") or row.startswith(("hand 0", "hand 8"))}
        for place, row in enumerate(rows):
            text = "\n".join(rows[:place] + rows[place + 1:])
            if row in needed:
                self.refused(text)
            else:
                self.assertEqual(written(read(text)), text)

    def test_what_is_read_is_what_was_written(self):
        """Whatever text is changed at one place, it is refused or is the very text of what is read."""
        dice = random.Random(8)
        signs = "0123456789 abz\ngone-+\u0661A"
        outcomes = set()
        for turn in range(6000):
            place = dice.randrange(len(FULL) + 1)
            text = FULL[:place] + dice.choice(signs) * dice.randrange(2) + FULL[place + dice.randrange(3):]
            try:
                self.assertEqual(written(read(text)), text)
                outcomes.add("read")
            except BadText:
                outcomes.add("refused")
        self.assertEqual(outcomes, {"read", "refused"})


if __name__ == "__main__":
    unittest.main()
