"""Short and long runs of calls, held against the plain reckoning (points 3 to 13)."""

import unittest

from tests.calls import KEYS, drawn_calls
from tests.plain import PlainShelf, answer
from versionshelf.shelf import Shelf
from versionshelf.texts import read, written


def every_sight(shelf):
    """What every hand sees of every key."""
    hands = shelf.standing()[2]
    return {(hand, key): shelf.look(hand, key) for hand in hands for key in KEYS}


class RunTest(unittest.TestCase):
    def same_state(self, shelf, plain, where):
        self.assertEqual(shelf.now, plain.now, where)
        self.assertEqual(shelf.standing(), plain.standing(), where)
        self.assertEqual(every_sight(shelf), every_sight(plain), where)
        self.assertEqual(shelf.cells(), plain.cells(), where)
        self.assertEqual(shelf.marked(), plain.marked(), where)
        reasons = plain.reasons()
        for branch, key, born, value in shelf.cells():
            self.assertEqual(shelf.reason(branch, key, born), reasons[branch, key, born], where)

    def same_sights(self, shelf, plain):
        for hand in plain.standing()[2]:
            self.assertEqual(shelf.keys(hand), plain.keys(hand))
            for other in plain.standing()[2]:
                self.assertEqual(shelf.differ(hand, other), plain.differ(hand, other))

    def run_beside_plain(self, seed, calls, hands, sweeps):
        shelf, plain = Shelf(), PlainShelf()
        source = drawn_calls(seed, hands)
        for turn in range(calls):
            call = source.next_call(plain)
            if sweeps and source.dice.random() < 0.15:
                call = ("sweep", source.dice.choice([0, 1, 2, 3, 1000]))
            where = f"seed {seed}, turn {turn}, {call}"
            self.assertEqual(answer(shelf, *call), answer(plain, *call), where)
            self.same_state(shelf, plain, where)
        self.same_sights(shelf, plain)
        self.assertEqual(written(shelf), plain.text())
        return shelf

    def test_short_runs(self):
        for seed in range(200):
            self.run_beside_plain(seed, 25, 1 + seed % 4, seed % 2 == 0)

    def test_long_runs_without_sweeps(self):
        for seed in range(10):
            self.run_beside_plain(1000 + seed, 130, 3 + seed % 5, False)

    def test_long_runs_with_sweeps(self):
        for seed in range(24):
            self.run_beside_plain(2000 + seed, 200, 2 + seed % 9, True)

    def test_the_runs_reach_what_they_are_for(self):
        whys, named, refusals = set(), set(), set()
        for seed in range(12):
            shelf, source = Shelf(), drawn_calls(2000 + seed, 2 + seed)
            for turn in range(200):
                told = answer(shelf, *source.next_call(shelf))
                if told[0] == "refused":
                    refusals.add(told[1])
                for cell in shelf.cells():
                    reason = shelf.reason(*cell[:3])
                    named.add(None if reason is None else (reason[0][0], len(reason)))
                if turn % 10 == 9:
                    whys |= {row[4] for row in shelf.sweep(2)}
        self.assertEqual(whys, {"unseen", "bare"})
        self.assertEqual(named, {None, ("hand", 1), ("hand", 2), ("head", 1), ("head", 2)})
        self.assertEqual(refusals, {"BadKey", "NoHand", "NoBranch", "Dropped", "Clash"})


class SweptOrNotTest(unittest.TestCase):
    """The same calls with sweeps and without: nobody can tell (points 10, 12)."""

    def same_answer(self, swept, kept, call, where):
        told, expected = answer(swept, *call), answer(kept, *call)
        if call[0] in ("begin", "drop") and expected[1] == "Dropped" and call[1] not in swept.standing()[0]:
            expected = ("refused", "NoBranch", None)
        self.assertEqual(told, expected, where)

    def run_both(self, seed, most):
        swept, kept = Shelf(), Shelf()
        source = drawn_calls(seed, 2 + seed % 7)
        went = 0
        for turn in range(150):
            call = source.next_call(kept)
            where = f"seed {seed}, most {most}, turn {turn}, {call}"
            self.same_answer(swept, kept, call, where)
            if turn % 3 == seed % 3:
                went += len(swept.sweep(most))
            self.assertEqual(swept.now, kept.now, where)
            self.assertEqual(swept.standing()[2], kept.standing()[2], where)
            self.assertEqual(every_sight(swept), every_sight(kept), where)
        return went

    def test_same_answers(self):
        for most in (0, 1, 2, 3, 1000000):
            went = [self.run_both(3000 + seed, most) for seed in range(5)]
            self.assertEqual(most > 0, sum(went) > 0)

    def test_everything_ends_the_same(self):
        """Each hand's commit at the end is refused or not, whatever was swept before."""
        for seed in range(20):
            swept, kept = Shelf(), Shelf()
            source = drawn_calls(4000 + seed)
            for turn in range(60):
                call = source.next_call(kept)
                answer(swept, *call)
                answer(kept, *call)
            swept.sweep(1000)
            for hand in kept.standing()[2]:
                for key in KEYS:
                    kept.write(hand, key, 5)
                    swept.write(hand, key, 5)
                self.assertEqual(answer(swept, "commit", hand), answer(kept, "commit", hand))
                swept.sweep(1)


class PiecesTest(unittest.TestCase):
    """Sweeps by pieces, until nothing goes (points 11, 12)."""

    def drawn_text(self, seed):
        shelf, source = Shelf(), drawn_calls(seed)
        for turn in range(120):
            answer(shelf, *source.next_call(shelf))
        return written(shelf)

    def test_pieces_are_the_whole(self):
        for seed in range(10):
            text = self.drawn_text(5000 + seed)
            whole = read(text)
            told = [row[:3] + row[4:] for row in whole.sweep(10000)]
            self.assertEqual(whole.sweep(10000), [])
            for most in (1, 2, 3):
                shelf, pieces = read(text), []
                sights = every_sight(shelf)
                while piece := shelf.sweep(most):
                    self.assertLessEqual(len(piece), most)
                    self.assertEqual(every_sight(shelf), sights)
                    pieces += [row[:3] + row[4:] for row in piece]
                self.assertEqual(pieces, told)
                self.assertEqual(written(shelf), written(whole))


class GoneOnWithTest(unittest.TestCase):
    """What is written is read to a shelf that goes on as the first one does (point 15)."""

    def test_read_in_the_midst_of_runs(self):
        for seed in range(10):
            shelf, source = Shelf(), drawn_calls(6000 + seed)
            for turn in range(120):
                text = written(shelf)
                other = read(text)
                self.assertEqual(written(other), text)
                call = source.next_call(shelf)
                if turn % 7 == 6:
                    call = ("sweep", turn % 4)
                self.assertEqual(answer(other, *call), answer(shelf, *call))
                self.assertEqual(written(other), written(shelf))
                self.assertEqual(every_sight(other), every_sight(shelf))
                if turn % 2:
                    shelf = other


if __name__ == "__main__":
    unittest.main()
