"""What stays and why, what goes, and what a sweep takes away behind that (points 9 to 13)."""

import unittest

from tests.base import ShelfTest, put
from versionshelf.errors import BadKey, Clash, NoBranch, NoCell
from versionshelf.texts import read, written


class SweepTest(ShelfTest):
    def reasons(self):
        return {row[:3]: self.shelf.reason(*row[:3]) for row in self.shelf.cells()}


class UnseenTest(SweepTest):
    def test_older_versions_go(self):
        for value in (5, 6, 7):
            put(self.shelf, 0, a=value)
        self.assertEqual(self.shelf.sweep(10), [(0, "a", 1, 2, "unseen"), (0, "a", 2, 3, "unseen")])
        self.assertEqual(self.shelf.cells(), [(0, "a", 3, 7)])
        self.assertEqual(self.shelf.sweep(10), [])

    def test_hands_keep_what_they_come_to(self):
        hands = []
        for value in range(4):
            put(self.shelf, 0, a=value)
            hands.append(self.shelf.begin(0))
        self.shelf.close(hands[1])
        self.assertEqual(self.shelf.sweep(10), [(0, "a", 2, 3, "unseen")])
        self.assertEqual([self.shelf.look(hand, "a") for hand in (hands[0], hands[2], hands[3])], [0, 2, 3])

    def test_a_draft_hides_nothing_from_the_view(self):
        put(self.shelf, 0, a=1)
        hand = self.shelf.begin(0)
        self.shelf.write(hand, "a", 2)
        put(self.shelf, 0, a=3)
        self.assertEqual(self.shelf.sweep(10), [])
        self.assertEqual(self.shelf.reason(0, "a", 1), (("hand", hand),))

    def test_a_branch_keeps_what_is_beneath(self):
        put(self.shelf, 0, a=1, b=1)
        hand = self.shelf.begin(0)
        branch = self.shelf.fork(hand)
        self.shelf.close(hand)
        put(self.shelf, 0, a=2, b=2)
        self.assertEqual(self.shelf.sweep(10), [])
        put(self.shelf, branch, a=3)
        self.assertEqual(self.shelf.sweep(10), [(0, "a", 1, 2, "unseen")])
        self.assertEqual(self.shelf.reason(0, "b", 1), (("head", branch),))
        self.shelf.drop(branch)
        self.assertEqual(self.shelf.sweep(10), [(0, "b", 1, 2, "unseen"), (1, "a", 3, None, "unseen")])

    def test_a_dropped_branch_has_no_head_but_hands_in_it_and_branches_over_it_count(self):
        first = self.shelf.begin(0)
        branch = self.shelf.fork(first)
        put(self.shelf, branch, a=1, b=1)
        hand = self.shelf.begin(branch)
        over = self.shelf.fork(hand)
        put(self.shelf, branch, a=2)
        put(self.shelf, over, b=2)
        self.shelf.drop(branch)
        self.assertEqual(self.shelf.sweep(10), [(1, "a", 2, None, "unseen")])
        self.shelf.close(hand)
        self.assertEqual(self.shelf.sweep(10), [(1, "b", 1, None, "unseen")])
        self.assertEqual(self.reasons(), {(1, "a", 1): (("head", over),), (2, "b", 3): (("head", over),)})
        self.assertEqual(self.shelf.look(self.shelf.begin(over), "a"), 1)

    def test_most(self):
        for value in range(5):
            put(self.shelf, 0, a=value)
        whole = [(0, "a", born, born + 1, "unseen") for born in range(1, 5)]
        for most in (0, 1, 2, 3, 4, 5, 1000000):
            shelf = read(written(self.shelf))
            self.assertEqual(shelf.sweep(most), whole[:most])
            self.assertEqual(shelf.cells(), self.shelf.cells()[min(most, 4):])

    def test_until_is_as_when_the_sweep_begins(self):
        for value in range(4):
            put(self.shelf, 0, a=value)
        hand = self.shelf.begin(0)
        put(self.shelf, 0, a=9)
        self.assertEqual(self.shelf.sweep(2), [(0, "a", 1, 2, "unseen"), (0, "a", 2, 3, "unseen")])
        self.assertEqual(self.shelf.sweep(2), [(0, "a", 3, 4, "unseen")])
        self.shelf.close(hand)
        put(self.shelf, 0, b=1)
        put(self.shelf, 0, b=None)
        self.assertEqual(
            self.shelf.sweep(10), [(0, "a", 4, 5, "unseen"), (0, "b", 6, 7, "unseen"), (0, "b", 7, None, "bare")]
        )

    def test_until_jumps_what_went_before(self):
        put(self.shelf, 0, a=1)
        hand = self.shelf.begin(0)
        put(self.shelf, 0, a=2)
        put(self.shelf, 0, a=3)
        self.assertEqual(self.shelf.sweep(10), [(0, "a", 2, 3, "unseen")])
        self.shelf.close(hand)
        self.assertEqual(self.shelf.sweep(10), [(0, "a", 1, 3, "unseen")])


class BareTest(SweepTest):
    def test_nothing_beneath(self):
        put(self.shelf, 0, a=None)
        self.assertIsNone(self.shelf.reason(0, "a", 1))
        self.assertEqual(self.shelf.sweep(10), [(0, "a", 1, None, "bare")])
        self.assertEqual(self.shelf.cells(), [])

    def test_what_is_beneath_goes_first(self):
        put(self.shelf, 0, a=1)
        put(self.shelf, 0, a=None)
        self.assertEqual(self.shelf.sweep(1), [(0, "a", 1, 2, "unseen")])
        self.assertIsNone(self.shelf.look(self.shelf.begin(0), "a"))
        self.assertEqual(self.shelf.sweep(1), [(0, "a", 2, None, "bare")])
        self.assertIsNone(self.shelf.look(self.shelf.begin(0), "a"))

    def test_it_stays_over_a_value_that_stays(self):
        put(self.shelf, 0, a=1)
        hand = self.shelf.begin(0)
        put(self.shelf, 0, a=None)
        self.assertEqual(self.shelf.sweep(10), [])
        self.assertEqual(
            self.reasons(), {(0, "a", 1): (("hand", hand),), (0, "a", 2): (("head", 0), (0, "a", 1))}
        )
        self.shelf.close(hand)
        self.assertEqual(self.shelf.sweep(10), [(0, "a", 1, 2, "unseen"), (0, "a", 2, None, "bare")])

    def test_one_over_one_that_stays_is_bare(self):
        put(self.shelf, 0, a=1)
        first = self.shelf.begin(0)
        put(self.shelf, 0, a=None)
        second = self.shelf.begin(0)
        put(self.shelf, 0, a=None)
        third = self.shelf.begin(0)
        put(self.shelf, 0, a=None)
        self.assertEqual(self.shelf.reason(0, "a", 2), (("hand", second), (0, "a", 1)))
        self.assertEqual(self.shelf.sweep(1), [(0, "a", 3, 4, "bare")])
        self.assertEqual(self.shelf.reason(0, "a", 2), (("hand", second), (0, "a", 1)))
        self.shelf.close(second)
        # The third hand comes to the version of moment 2 now.
        self.assertEqual(self.shelf.reason(0, "a", 2), (("hand", third), (0, "a", 1)))
        self.assertEqual(self.shelf.sweep(1), [(0, "a", 4, None, "bare")])
        self.assertEqual(self.shelf.sweep(1), [])
        self.assertEqual([self.shelf.look(hand, "a") for hand in (first, third)], [1, None])
        self.assertIsNone(self.shelf.look(self.shelf.begin(0), "a"))

    def test_an_unseen_one_between_does_not_count(self):
        put(self.shelf, 0, a=1)
        hand = self.shelf.begin(0)
        put(self.shelf, 0, a=None)
        put(self.shelf, 0, a=None)
        self.assertEqual(self.shelf.reason(0, "a", 3), (("head", 0), (0, "a", 1)))
        self.assertEqual(self.shelf.sweep(10), [(0, "a", 2, 3, "unseen")])
        self.assertEqual(self.shelf.reason(0, "a", 3), (("head", 0), (0, "a", 1)))
        self.assertEqual(self.shelf.look(hand, "a"), 1)

    def test_an_unseen_value_between_does_not_count(self):
        put(self.shelf, 0, a=None)
        first = self.shelf.begin(0)
        put(self.shelf, 0, a=1)
        put(self.shelf, 0, a=None)
        told = [(0, "a", 2, 3, "unseen"), (0, "a", 1, 2, "bare"), (0, "a", 3, None, "bare")]
        self.assertEqual(self.shelf.sweep(10), told)
        self.assertIsNone(self.shelf.look(first, "a"))

    def test_a_value_between_makes_the_later_one_stay(self):
        put(self.shelf, 0, a=None)
        put(self.shelf, 0, a=1)
        hand = self.shelf.begin(0)
        put(self.shelf, 0, a=None)
        self.assertEqual(self.shelf.sweep(10), [(0, "a", 1, 2, "unseen")])
        self.assertEqual(self.shelf.reason(0, "a", 3), (("head", 0), (0, "a", 2)))
        self.shelf.close(hand)

    def test_over_branches(self):
        put(self.shelf, 0, a=1)
        hand = self.shelf.begin(0)
        branch = self.shelf.fork(hand)
        self.shelf.close(hand)
        put(self.shelf, branch, a=None)
        self.assertEqual(self.shelf.sweep(10), [])
        self.assertEqual(self.shelf.reason(branch, "a", 2), (("head", branch), (0, "a", 1)))
        put(self.shelf, 0, a=2)
        # What stays of branch 0 is born behind the moment over which branch 1 stands.
        self.assertEqual(self.shelf.sweep(10), [(0, "a", 1, 3, "unseen"), (1, "a", 2, None, "bare")])
        self.assertIsNone(self.shelf.look(self.shelf.begin(branch), "a"))

    def test_beneath_over_several_branches(self):
        put(self.shelf, 0, a=1)
        low = self.shelf.fork(self.shelf.begin(0))
        middle = self.shelf.fork(self.shelf.begin(low))
        high = self.shelf.fork(self.shelf.begin(middle))
        put(self.shelf, high, a=None)
        self.assertEqual(self.shelf.reason(high, "a", 2), (("head", high), (0, "a", 1)))
        put(self.shelf, middle, a=None)
        # It was born behind the moment over which the highest branch stands.
        self.assertEqual(self.shelf.reason(high, "a", 2), (("head", high), (0, "a", 1)))
        self.assertEqual(self.shelf.sweep(10), [])

    def test_one_over_one_that_stays_in_the_branch_beneath(self):
        put(self.shelf, 0, a=1)
        early = self.shelf.begin(0)
        put(self.shelf, 0, a=None)
        late = self.shelf.begin(0)
        branch = self.shelf.fork(late)
        put(self.shelf, branch, a=None)
        self.assertEqual(self.shelf.sweep(10), [(1, "a", 3, None, "bare")])
        self.shelf.close(late)
        put(self.shelf, 0, a=4)
        self.assertEqual(self.shelf.reason(0, "a", 2), (("head", branch), (0, "a", 1)))
        self.assertEqual(self.shelf.look(early, "a"), 1)
        self.assertIsNone(self.shelf.look(self.shelf.begin(branch), "a"))

    def test_one_that_is_bare_beneath_does_not_count(self):
        put(self.shelf, 0, a=1)
        hand = self.shelf.begin(0)
        low = self.shelf.fork(hand)
        put(self.shelf, low, a=None)
        middle = self.shelf.fork(self.shelf.begin(low))
        put(self.shelf, middle, a=None)
        high = self.shelf.fork(self.shelf.begin(middle))
        put(self.shelf, high, a=None)
        self.assertEqual(self.shelf.sweep(1), [(2, "a", 3, None, "bare")])
        self.assertEqual(self.shelf.sweep(5), [(3, "a", 4, None, "bare")])
        self.assertEqual(self.shelf.reason(low, "a", 2)[1], (0, "a", 1))


class OrderTest(SweepTest):
    def test_unseen_ahead_of_bare_each_by_branches_keys_births(self):
        base = self.shelf.begin(0)
        first, second = self.shelf.fork(base), self.shelf.fork(base)
        for branch in (second, 0, first):
            put(self.shelf, branch, b=None, a=1)
            put(self.shelf, branch, b=None, a=None)
            put(self.shelf, branch, a=2, c=None)
        told = [
            (0, "a", 4, 5, "unseen"),
            (0, "a", 5, 6, "unseen"),
            (0, "b", 4, 5, "unseen"),
            (1, "a", 7, 8, "unseen"),
            (1, "a", 8, 9, "unseen"),
            (1, "b", 7, 8, "unseen"),
            (2, "a", 1, 2, "unseen"),
            (2, "a", 2, 3, "unseen"),
            (2, "b", 1, 2, "unseen"),
            (0, "b", 5, None, "bare"),
            (0, "c", 6, None, "bare"),
            (1, "b", 8, None, "bare"),
            (1, "c", 9, None, "bare"),
            (2, "b", 2, None, "bare"),
            (2, "c", 3, None, "bare"),
        ]
        for most in range(17):
            self.assertEqual(read(written(self.shelf)).sweep(most), told[:most])

    def test_branches_by_numbers_not_by_words(self):
        base = self.shelf.begin(0)
        for turn in range(11):
            self.shelf.fork(base)
        for branch in (10, 11, 2, 9):
            put(self.shelf, branch, a=None)
        self.assertEqual([row[0] for row in self.shelf.sweep(99)], [2, 9, 10, 11])

    def test_births_by_numbers_not_by_words(self):
        for value in range(12):
            put(self.shelf, 0, a=value)
        self.assertEqual([row[2] for row in self.shelf.cells()], list(range(1, 13)))
        self.assertEqual([row[2] for row in self.shelf.sweep(99)], list(range(1, 12)))


class MarksTest(SweepTest):
    def test_all_go_where_no_hand_is(self):
        put(self.shelf, 0, a=1, b=2)
        self.assertEqual(self.shelf.marked(), [(0, "a", 1), (0, "b", 1)])
        self.assertEqual(self.shelf.sweep(0), [])
        self.assertEqual(self.shelf.marked(), [])

    def test_hands_keep_later_marks(self):
        put(self.shelf, 0, a=1, b=2)
        hand = self.shelf.begin(0)
        put(self.shelf, 0, c=1)
        later = self.shelf.begin(0)
        put(self.shelf, 0, b=1)
        self.shelf.sweep(0)
        self.assertEqual(self.shelf.marked(), [(0, "b", 3), (0, "c", 2)])
        self.shelf.close(hand)
        self.shelf.sweep(0)
        self.assertEqual(self.shelf.marked(), [(0, "b", 3)])
        self.shelf.close(later)
        self.shelf.sweep(0)
        self.assertEqual(self.shelf.marked(), [])

    def test_hands_of_other_branches_keep_none(self):
        hand = self.shelf.begin(0)
        branch = self.shelf.fork(hand)
        put(self.shelf, branch, a=1)
        put(self.shelf, 0, a=2)
        self.assertEqual(self.shelf.marked(), [(0, "a", 2), (1, "a", 1)])
        self.shelf.sweep(0)
        self.assertEqual(self.shelf.marked(), [(0, "a", 2)])

    def test_a_mark_tells_the_last_change(self):
        hand = self.shelf.begin(0)
        put(self.shelf, 0, a=1)
        put(self.shelf, 0, a=None)
        self.assertEqual(self.shelf.marked(), [(0, "a", 2)])
        self.shelf.close(hand)

    def test_a_clash_is_refused_though_the_versions_went(self):
        hand = self.shelf.begin(0)
        put(self.shelf, 0, a=1)
        put(self.shelf, 0, a=None)
        self.assertEqual(len(self.shelf.sweep(10)), 2)
        self.assertEqual((self.shelf.cells(), self.shelf.marked()), ([], [(0, "a", 2)]))
        self.shelf.write(hand, "a", 1)
        self.assertEqual(self.refused(Clash, "commit", hand).key, "a")
        twin = self.shelf.twin(hand)
        self.shelf.close(hand)
        self.shelf.sweep(10)
        self.shelf.write(twin, "a", 1)
        self.assertEqual(self.refused(Clash, "commit", twin).key, "a")

    def test_marks_in_order(self):
        base = self.shelf.begin(0)
        for turn in range(10):
            self.shelf.fork(base)
        for branch in (10, 2, 0):
            put(self.shelf, branch, b=1, a=2)
        rows = [(0, "a", 3), (0, "b", 3), (2, "a", 2), (2, "b", 2), (10, "a", 1), (10, "b", 1)]
        self.assertEqual(self.shelf.marked(), rows)


class DroppedBranchesTest(SweepTest):
    def test_an_empty_one_goes_where_nothing_went(self):
        hand = self.shelf.begin(0)
        first, second = self.shelf.fork(hand), self.shelf.fork(hand)
        self.shelf.drop(first)
        self.assertEqual(self.shelf.sweep(0), [])
        self.assertEqual(self.shelf.standing(), ([0, second], [], [hand]))
        self.refused(NoBranch, "drop", first)
        self.refused(NoBranch, "begin", first)

    def test_one_with_a_hand_stays(self):
        base = self.shelf.begin(0)
        branch = self.shelf.fork(base)
        hand = self.shelf.begin(branch)
        self.shelf.drop(branch)
        self.shelf.sweep(9)
        self.assertEqual(self.shelf.standing()[:2], ([0, 1], [1]))
        self.shelf.close(hand)
        self.shelf.sweep(0)
        self.assertEqual(self.shelf.standing()[:2], ([0], []))

    def test_one_with_a_version_stays(self):
        branch = self.shelf.fork(self.shelf.begin(0))
        put(self.shelf, branch, a=1)
        put(self.shelf, branch, b=1)
        self.shelf.drop(branch)
        self.assertEqual(len(self.shelf.sweep(1)), 1)
        self.assertEqual(self.shelf.standing()[0], [0, 1])
        self.assertEqual(len(self.shelf.sweep(1)), 1)
        self.assertEqual(self.shelf.standing()[0], [0])
        self.assertEqual(self.shelf.marked(), [])

    def test_one_beneath_another_goes_when_that_has_gone(self):
        hand = self.shelf.begin(0)
        for turn in range(5):
            branch = self.shelf.fork(hand)
            self.shelf.close(hand)
            hand = self.shelf.begin(branch)
        self.shelf.close(hand)
        for number in (2, 3, 4):
            self.shelf.drop(number)
        self.shelf.sweep(0)
        self.assertEqual(self.shelf.standing()[:2], ([0, 1, 2, 3, 4, 5], [2, 3, 4]))
        self.shelf.drop(5)
        self.shelf.sweep(0)
        self.assertEqual(self.shelf.standing()[:2], ([0, 1], []))
        self.assertEqual(self.shelf.fork(self.shelf.begin(1)), 6)

    def test_one_whose_last_version_goes_in_the_same_sweep(self):
        first = self.shelf.begin(0)
        branch = self.shelf.fork(first)
        put(self.shelf, branch, a=1)
        hand = self.shelf.begin(branch)
        over = self.shelf.fork(hand)
        self.shelf.drop(branch)
        self.shelf.drop(over)
        self.shelf.close(hand)
        self.assertEqual(self.shelf.sweep(9), [(1, "a", 1, None, "unseen")])
        self.assertEqual(self.shelf.standing()[0], [0])

    def test_living_ones_stay(self):
        branch = self.shelf.fork(self.shelf.begin(0))
        self.shelf.sweep(9)
        self.assertEqual(self.shelf.standing()[:2], ([0, branch], []))


class ReasonTest(SweepTest):
    def test_the_first_owner(self):
        put(self.shelf, 0, a=1)
        self.assertEqual(self.shelf.reason(0, "a", 1), (("head", 0),))
        hands = [self.shelf.begin(0) for turn in range(11)]
        branch = self.shelf.fork(hands[0])
        self.assertEqual(self.shelf.reason(0, "a", 1), (("hand", hands[0]),))
        for hand in hands[:10]:
            self.shelf.close(hand)
        self.assertEqual(self.shelf.reason(0, "a", 1), (("hand", hands[10]),))
        over = self.shelf.begin(branch)
        self.shelf.close(hands[10])
        self.assertEqual(self.shelf.reason(0, "a", 1), (("hand", over),))
        self.shelf.close(over)
        self.assertEqual(self.shelf.reason(0, "a", 1), (("head", 0),))
        put(self.shelf, 0, a=2)
        self.assertEqual(self.shelf.reason(0, "a", 1), (("head", branch),))
        put(self.shelf, branch, a=3)
        self.assertIsNone(self.shelf.reason(0, "a", 1))

    def test_refusals(self):
        put(self.shelf, 0, a=1)
        put(self.shelf, 0, b=1)
        for key, born in (("a", 0), ("a", 2), ("a", -1), ("a", 10**12), ("b", 1), ("c", 1)):
            self.refused(NoCell, "reason", 0, key, born)
        self.refused(NoBranch, "reason", 1, "", 1)
        self.refused(BadKey, "reason", 0, "", 1)
        put(self.shelf, 0, a=2)
        self.shelf.sweep(1)
        self.refused(NoCell, "reason", 0, "a", 1)
        self.assertEqual(self.shelf.reason(0, "a", 3), (("head", 0),))

    def test_a_version_that_can_go_is_told_as_none_until_it_has_gone(self):
        put(self.shelf, 0, a=1)
        put(self.shelf, 0, a=None)
        self.assertEqual(self.reasons(), {(0, "a", 1): None, (0, "a", 2): None})
        self.shelf.sweep(0)
        self.assertEqual(self.reasons(), {(0, "a", 1): None, (0, "a", 2): None})

    def test_in_a_dropped_branch(self):
        branch = self.shelf.fork(self.shelf.begin(0))
        put(self.shelf, branch, a=1)
        self.shelf.drop(branch)
        self.assertIsNone(self.shelf.reason(branch, "a", 1))

    def test_each_change_counts_at_once(self):
        """What was asked before does not tell what is asked behind a change."""
        put(self.shelf, 0, a=1)
        first = self.shelf.begin(0)
        put(self.shelf, 0, a=2)
        self.assertEqual(self.shelf.reason(0, "a", 1), (("hand", first),))
        twin = self.shelf.twin(first)
        self.shelf.close(first)
        self.assertEqual(self.shelf.reason(0, "a", 1), (("hand", twin),))
        branch = self.shelf.fork(twin)
        self.shelf.commit(twin)
        self.assertEqual(self.shelf.reason(0, "a", 1), (("head", branch),))
        self.shelf.drop(branch)
        self.assertIsNone(self.shelf.reason(0, "a", 1))


if __name__ == "__main__":
    unittest.main()
