"""Keys, values, branches, hands, drafts and commits (points 1 to 8), and who is refused first."""

import unittest

from tests.base import ShelfTest, put
from versionshelf.errors import BadKey, BadText, Clash, Dropped, NoBranch, NoCell, NoHand, ShelfError
from versionshelf.shelf import Shelf
from versionshelf.texts import written


class ErrorsTest(unittest.TestCase):
    def test_classes(self):
        self.assertTrue(issubclass(ShelfError, ValueError))
        for error in (BadKey, NoHand, NoBranch, Dropped, Clash, NoCell, BadText):
            self.assertEqual(error.__bases__, (ShelfError,))

    def test_clash_has_its_key(self):
        self.assertEqual(Clash("ab").key, "ab")


class KeysAndValuesTest(ShelfTest):
    def test_keys(self):
        hand = self.shelf.begin(0)
        for key in ("a", "z", "abcdefgh", "zzzzzzzz", "gone"):
            self.assertIsNone(self.shelf.write(hand, key, 1))
            self.assertEqual(self.shelf.look(hand, key), 1)
            self.assertIsNone(self.shelf.erase(hand, key))
            self.assertIsNone(self.shelf.look(hand, key))

    def test_no_keys(self):
        hand = self.shelf.begin(0)
        put(self.shelf, 0, a=1)
        strange = ["", "abcdefghi", "a" * 30, "A", "aB", "a1", "1", "a b", " a", "a ", "a\n", "\n", "a-", "a_", "`", "{"]
        strange += ["\u00e4", "a\u00e4", "\u0430", "\u017f", "\u00aa", "a\x00"]
        for key in strange:
            with self.subTest(key=key):
                self.refused(BadKey, "look", hand, key)
                self.refused(BadKey, "write", hand, key, 1)
                self.refused(BadKey, "erase", hand, key)
                self.refused(BadKey, "reason", 0, key, 1)

    def test_values(self):
        hand = self.shelf.begin(0)
        for value in (0, 1, 999999):
            self.shelf.write(hand, "a", value)
            self.assertEqual(self.shelf.look(hand, "a"), value)
        for value in (-1, 1000000, -999999, 10**30):
            self.refused(BadKey, "write", hand, "a", value)
        self.assertEqual(self.shelf.look(hand, "a"), 999999)

    def test_nought_is_a_value(self):
        put(self.shelf, 0, a=0)
        hand = self.shelf.begin(0)
        self.assertEqual(self.shelf.look(hand, "a"), 0)
        self.assertEqual(self.shelf.keys(hand), ["a"])
        self.assertEqual(self.shelf.cells(), [(0, "a", 1, 0)])
        self.shelf.erase(hand, "a")
        other = self.shelf.begin(0)
        self.assertEqual(self.shelf.differ(hand, other), ["a"])


class BranchesTest(ShelfTest):
    def test_at_first(self):
        self.assertEqual(self.shelf.now, 0)
        self.assertEqual(self.shelf.standing(), ([0], [], []))
        self.assertEqual(self.shelf.cells(), [])
        self.assertEqual(self.shelf.marked(), [])
        self.assertEqual(self.shelf.sweep(5), [])

    def test_numbers_are_not_used_twice(self):
        self.assertEqual([self.shelf.begin(0), self.shelf.twin(0), self.shelf.begin(0)], [0, 1, 2])
        self.shelf.close(2)
        self.shelf.commit(1)
        self.assertEqual([self.shelf.begin(0), self.shelf.twin(0)], [3, 4])
        self.assertEqual([self.shelf.fork(0), self.shelf.fork(4)], [1, 2])
        self.shelf.drop(2)
        self.shelf.sweep(0)
        self.assertEqual(self.shelf.standing(), ([0, 1], [], [0, 3, 4]))
        self.assertEqual(self.shelf.fork(0), 3)

    def test_numbers_of_shelves_stand_apart(self):
        other = Shelf()
        self.shelf.begin(0)
        self.shelf.fork(0)
        put(self.shelf, 0, a=1)
        self.assertEqual((other.begin(0), other.fork(0), other.now), (0, 1, 0))
        self.assertIsNone(other.look(0, "a"))
        self.assertEqual(other.cells(), [])
        self.assertEqual(Shelf().standing(), ([0], [], []))

    def test_standing_in_order(self):
        for turn in range(12):
            self.shelf.fork(self.shelf.begin(0))
        for branch in (11, 2, 7):
            self.assertIsNone(self.shelf.drop(branch))
        for hand in (0, 5):
            self.assertIsNone(self.shelf.close(hand))
        self.assertEqual(
            self.shelf.standing(), (list(range(13)), [2, 7, 11], [1, 2, 3, 4, 6, 7, 8, 9, 10, 11])
        )

    def test_a_branch_stands_over_the_hand_s_moment(self):
        put(self.shelf, 0, a=1)
        hand = self.shelf.begin(0)
        put(self.shelf, 0, a=2)
        branch = self.shelf.fork(hand)
        put(self.shelf, 0, a=3)
        self.assertEqual(self.shelf.look(self.shelf.begin(branch), "a"), 1)
        put(self.shelf, branch, b=5)
        self.assertEqual(self.shelf.keys(self.shelf.begin(branch)), ["a", "b"])
        self.assertEqual(self.shelf.keys(self.shelf.begin(0)), ["a"])
        self.assertEqual(self.shelf.look(self.shelf.begin(0), "a"), 3)

    def test_a_fork_has_none_of_the_drafts(self):
        hand = self.shelf.begin(0)
        self.shelf.write(hand, "a", 1)
        branch = self.shelf.fork(hand)
        self.assertIsNone(self.shelf.look(self.shelf.begin(branch), "a"))
        self.assertEqual(self.shelf.look(hand, "a"), 1)

    def test_gone_in_a_branch_hides_what_is_beneath(self):
        put(self.shelf, 0, a=1, b=2)
        branch = self.shelf.fork(self.shelf.begin(0))
        early = self.shelf.begin(branch)
        put(self.shelf, branch, a=None)
        late = self.shelf.begin(branch)
        self.assertEqual((self.shelf.look(early, "a"), self.shelf.look(late, "a")), (1, None))
        self.assertEqual(self.shelf.keys(late), ["b"])
        self.assertEqual(self.shelf.differ(early, late), ["a"])

    def test_a_dropped_branch(self):
        put(self.shelf, 0, a=1)
        branch = self.shelf.fork(self.shelf.begin(0))
        put(self.shelf, branch, a=2)
        hand = self.shelf.begin(branch)
        over = self.shelf.fork(hand)
        self.shelf.drop(branch)
        self.refused(Dropped, "begin", branch)
        self.refused(Dropped, "drop", branch)
        self.assertEqual(self.shelf.look(hand, "a"), 2)
        twin = self.shelf.twin(hand)
        self.assertEqual(self.shelf.look(twin, "a"), 2)
        fork = self.shelf.fork(twin)
        for number in (over, fork):
            self.assertEqual(self.shelf.look(self.shelf.begin(number), "a"), 2)
        self.assertEqual(self.shelf.standing()[:2], ([0, 1, 2, 3], [1]))

    def test_branch_0_is_never_dropped(self):
        self.refused(NoBranch, "drop", 0)
        self.refused(NoBranch, "drop", 0)
        self.assertEqual(self.shelf.begin(0), 0)


class NotThereTest(ShelfTest):
    """A hand or a branch that isn't there is refused ahead of all else (interface)."""

    def calls_by_hand(self, hand):
        for name in ("twin", "fork", "close", "keys", "commit"):
            self.refused(NoHand, name, hand)
        for key in ("a", "", "A"):
            self.refused(NoHand, "look", hand, key)
            self.refused(NoHand, "erase", hand, key)
            for value in (1, -1, 1000000):
                self.refused(NoHand, "write", hand, key, value)

    def test_hands(self):
        there, closed, committed = [self.shelf.begin(0) for turn in range(3)]
        self.shelf.close(closed)
        self.shelf.commit(committed)
        for hand in (-1, -2, 3, 1000000000, 10**30, closed, committed):
            with self.subTest(hand=hand):
                self.calls_by_hand(hand)
                self.refused(NoHand, "differ", hand, there)
                self.refused(NoHand, "differ", there, hand)
                self.refused(NoHand, "differ", hand, hand)

    def test_branches(self):
        self.shelf.fork(self.shelf.begin(0))
        self.shelf.drop(1)
        self.shelf.sweep(0)
        for branch in (-1, 2, 1000000000, 10**30, 1):
            with self.subTest(branch=branch):
                self.refused(NoBranch, "begin", branch)
                self.refused(NoBranch, "drop", branch)
                for key in ("a", "", "A"):
                    self.refused(NoBranch, "reason", branch, key, 1)


class HandsTest(ShelfTest):
    def test_hands_see_their_moment(self):
        hands = []
        for value in range(6):
            hands.append(self.shelf.begin(0))
            put(self.shelf, 0, a=value)
        self.assertEqual([self.shelf.look(hand, "a") for hand in hands], [None, 0, 1, 2, 3, 4])
        twins = [self.shelf.twin(hand) for hand in hands]
        self.assertEqual([self.shelf.look(hand, "a") for hand in twins], [None, 0, 1, 2, 3, 4])

    def test_a_twin_has_none_of_the_drafts(self):
        hand = self.shelf.begin(0)
        self.shelf.write(hand, "a", 1)
        twin = self.shelf.twin(hand)
        self.assertIsNone(self.shelf.look(twin, "a"))
        self.shelf.write(twin, "a", 2)
        self.assertEqual((self.shelf.look(hand, "a"), self.shelf.look(twin, "a")), (1, 2))

    def test_only_the_hand_sees_its_drafts(self):
        put(self.shelf, 0, a=1, b=2)
        hand, other = self.shelf.begin(0), self.shelf.begin(0)
        self.shelf.write(hand, "a", 7)
        self.shelf.write(hand, "c", 3)
        self.shelf.erase(hand, "b")
        self.assertEqual([self.shelf.look(hand, key) for key in "abc"], [7, None, 3])
        self.assertEqual([self.shelf.look(other, key) for key in "abc"], [1, 2, None])
        self.assertEqual((self.shelf.keys(hand), self.shelf.keys(other)), (["a", "c"], ["a", "b"]))
        self.assertEqual(self.shelf.differ(hand, other), ["a", "b", "c"])
        self.assertEqual(self.shelf.differ(other, hand), ["a", "b", "c"])
        self.assertEqual(self.shelf.differ(hand, hand), [])
        self.shelf.close(hand)
        self.assertEqual(self.shelf.cells(), [(0, "a", 1, 1), (0, "b", 1, 2)])

    def test_differ_is_about_what_is_seen(self):
        hand, other = self.shelf.begin(0), self.shelf.begin(0)
        self.shelf.erase(hand, "a")
        self.shelf.write(hand, "b", 1)
        self.shelf.write(other, "b", 1)
        self.assertEqual(self.shelf.differ(hand, other), [])

    def test_keys_in_order(self):
        put(self.shelf, 0, m=1, b=1, zz=1, aa=1)
        branch = self.shelf.fork(self.shelf.begin(0))
        put(self.shelf, branch, c=1, a=1)
        hand = self.shelf.begin(branch)
        self.shelf.write(hand, "bb", 1)
        self.assertEqual(self.shelf.keys(hand), ["a", "aa", "b", "bb", "c", "m", "zz"])
        self.assertEqual(self.shelf.differ(hand, self.shelf.begin(0)), ["a", "bb", "c"])

    def test_the_last_draft_of_a_key_counts(self):
        hand = self.shelf.begin(0)
        for value in (1, 2):
            self.shelf.write(hand, "a", value)
            self.shelf.erase(hand, "b")
        self.shelf.erase(hand, "a")
        self.shelf.write(hand, "b", 3)
        self.shelf.commit(hand)
        self.assertEqual(self.shelf.cells(), [(0, "a", 1, None), (0, "b", 1, 3)])


class CommitTest(ShelfTest):
    def test_versions_are_born_at_the_new_moment(self):
        self.assertEqual(put(self.shelf, 0, b=1, a=None), 1)
        self.assertEqual(put(self.shelf, 0, b=1), 2)
        self.assertEqual(self.shelf.now, 2)
        self.assertEqual(self.shelf.cells(), [(0, "a", 1, None), (0, "b", 1, 1), (0, "b", 2, 1)])
        self.assertEqual(self.shelf.marked(), [(0, "a", 1), (0, "b", 2)])
        self.assertEqual(self.shelf.standing()[2], [])

    def test_without_drafts(self):
        put(self.shelf, 0, a=1)
        hand = self.shelf.begin(0)
        put(self.shelf, 0, a=2)
        self.assertEqual(self.shelf.commit(hand), 2)
        self.assertEqual((self.shelf.now, self.shelf.standing()[2]), (2, []))
        self.assertEqual(len(self.shelf.cells()), 2)

    def test_without_drafts_in_a_dropped_branch(self):
        first = self.shelf.begin(0)
        branch = self.shelf.fork(first)
        hand = self.shelf.begin(branch)
        self.shelf.drop(branch)
        self.assertEqual(self.shelf.commit(hand), 0)
        self.assertEqual(self.shelf.standing(), ([0, 1], [1], [first]))

    def test_dropped_ahead_of_clash(self):
        branch = self.shelf.fork(self.shelf.begin(0))
        hand = self.shelf.begin(branch)
        put(self.shelf, branch, a=1)
        self.shelf.write(hand, "a", 2)
        self.assertEqual(self.refused(Clash, "commit", hand).key, "a")
        self.shelf.drop(branch)
        self.refused(Dropped, "commit", hand)
        self.assertEqual(self.shelf.look(hand, "a"), 2)

    def test_clash_with_the_first_key(self):
        hand = self.shelf.begin(0)
        put(self.shelf, 0, c=1, b=1, z=1)
        for key in ("z", "c", "b", "a"):
            self.shelf.write(hand, key, 1)
        self.assertEqual(self.refused(Clash, "commit", hand).key, "b")
        self.assertEqual([self.shelf.look(hand, key) for key in "abcz"], [1, 1, 1, 1])
        self.assertEqual(self.shelf.standing()[2], [hand])

    def test_clash_by_equal_drafts_and_by_gone_ones(self):
        put(self.shelf, 0, a=1)
        hand, other = self.shelf.begin(0), self.shelf.begin(0)
        put(self.shelf, 0, a=1)
        self.shelf.write(hand, "a", 1)
        self.assertEqual(self.refused(Clash, "commit", hand).key, "a")
        put(self.shelf, 0, b=None)
        self.shelf.erase(other, "b")
        self.assertEqual(self.refused(Clash, "commit", other).key, "b")

    def test_no_clash_with_other_keys_branches_and_moments(self):
        put(self.shelf, 0, a=1)
        hand = self.shelf.begin(0)
        branch = self.shelf.fork(hand)
        put(self.shelf, branch, a=5)
        put(self.shelf, 0, b=5)
        self.shelf.write(hand, "a", 2)
        self.assertEqual(self.shelf.commit(hand), 4)

    def test_a_change_beneath_is_no_clash(self):
        branch = self.shelf.fork(self.shelf.begin(0))
        hand = self.shelf.begin(branch)
        put(self.shelf, 0, a=1)
        self.shelf.write(hand, "a", 2)
        self.assertEqual(self.shelf.commit(hand), 2)

    def test_a_twin_clashes_as_the_first_one_does(self):
        hand = self.shelf.begin(0)
        twin = self.shelf.twin(hand)
        for number in (hand, twin):
            self.shelf.write(number, "a", 1)
        self.shelf.commit(hand)
        later = self.shelf.twin(twin)
        self.shelf.erase(later, "a")
        self.assertEqual(self.refused(Clash, "commit", twin).key, "a")
        self.assertEqual(self.refused(Clash, "commit", later).key, "a")

    def test_a_refused_hand_can_be_closed(self):
        hand = self.shelf.begin(0)
        put(self.shelf, 0, a=1)
        self.shelf.write(hand, "a", 2)
        self.refused(Clash, "commit", hand)
        self.assertIsNone(self.shelf.close(hand))
        self.assertEqual((self.shelf.now, self.shelf.cells()), (1, [(0, "a", 1, 1)]))


class ToldListsTest(ShelfTest):
    """What is told may be changed, and asking changes nothing (point 1)."""

    def fill(self):
        put(self.shelf, 0, a=1, b=2)
        hand = self.shelf.begin(0)
        self.shelf.fork(hand)
        put(self.shelf, 1, a=None)
        self.shelf.drop(1)
        return (hand, self.shelf.twin(hand))

    def test_changed_lists_change_nothing(self):
        hand, other = self.fill()
        self.shelf.write(other, "c", 1)
        text = written(self.shelf)
        asked = [("keys", hand), ("differ", hand, other), ("cells",), ("marked",)]
        for name, *given in asked:
            first = getattr(self.shelf, name)(*given)
            kept = list(first)
            self.assertTrue(kept)
            first.reverse()
            first.clear()
            self.assertEqual(getattr(self.shelf, name)(*given), kept)
        for told in self.shelf.standing():
            told.append(77)
        self.assertEqual(self.shelf.standing(), ([0, 1], [1], [hand, other]))
        self.assertEqual(written(self.shelf), text)

    def test_a_changed_sweep_changes_nothing(self):
        self.fill()
        told = self.shelf.sweep(1)
        self.assertEqual(told, [(1, "a", 2, None, "unseen")])
        text = written(self.shelf)
        told.clear()
        self.assertEqual(written(self.shelf), text)
        told = self.shelf.sweep(1)
        self.assertEqual(told, [])
        told.append((0, "a", 1, None, "unseen"))
        self.assertEqual(self.shelf.sweep(1), [])

    def test_asking_changes_nothing(self):
        hand, other = self.fill()
        text = written(self.shelf)
        for turn in range(2):
            self.shelf.look(hand, "a")
            self.shelf.look(hand, "zz")
            self.shelf.keys(hand)
            self.shelf.differ(hand, other)
            for branch, key, born, value in self.shelf.cells():
                self.shelf.reason(branch, key, born)
            self.shelf.marked()
            self.shelf.standing()
            self.assertEqual(written(self.shelf), text)

    def test_kinds_of_what_is_told(self):
        hand, other = self.fill()
        for told in (self.shelf.keys(hand), self.shelf.differ(hand, other), self.shelf.cells(), self.shelf.marked()):
            self.assertIs(type(told), list)
        self.assertIs(type(self.shelf.standing()), tuple)
        self.assertEqual([type(told) for told in self.shelf.standing()], [list, list, list])
        self.assertEqual({type(row) for row in self.shelf.cells() + self.shelf.marked()}, {tuple})
        self.assertIs(type(self.shelf.sweep(0)), list)


if __name__ == "__main__":
    unittest.main()
