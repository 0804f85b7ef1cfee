"""Long chains of versions of one key, and deep branches over branches (points 4, 5, 10, 12, 13)."""

import unittest

from tests.base import ShelfTest, put
from versionshelf.texts import read, written

LONG = 1500


class LongTest(ShelfTest):
    def same_rows(self, told, expected):
        """As assertEqual, but it doesn't work out how long lists differ, which would take very long."""
        self.assertEqual(len(told), len(expected))
        for row, due in zip(told, expected):
            self.assertEqual(row, due)


class ChainTest(LongTest):
    def test_each_version_held_by_a_hand(self):
        hands = []
        for value in range(LONG):
            put(self.shelf, 0, a=value)
            hands.append(self.shelf.begin(0))
        self.same_rows([self.shelf.look(hand, "a") for hand in hands], list(range(LONG)))
        for place, hand in enumerate(hands):
            self.assertEqual(self.shelf.reason(0, "a", place + 1), (("hand", hand),))
        self.same_rows(self.shelf.sweep(LONG), [])
        for hand in hands[::2]:
            self.shelf.close(hand)
        told = [(0, "a", born, born + 1, "unseen") for born in range(1, LONG, 2)]
        self.same_rows(self.shelf.sweep(LONG), told)
        self.same_rows([self.shelf.look(hand, "a") for hand in hands[1::2]], list(range(1, LONG, 2)))

    def test_most_versions_unseen(self):
        put(self.shelf, 0, a=0)
        first = self.shelf.begin(0)
        for value in range(1, LONG):
            put(self.shelf, 0, a=value)
        self.assertIsNone(self.shelf.reason(0, "a", LONG // 2))
        went = 0
        while told := self.shelf.sweep(7):
            went += len(told)
        self.assertEqual(went, LONG - 2)
        self.same_rows(self.shelf.cells(), [(0, "a", 1, 0), (0, "a", LONG, LONG - 1)])
        self.assertEqual(self.shelf.look(first, "a"), 0)

    def test_a_chain_by_which_the_key_is_gone(self):
        put(self.shelf, 0, a=5)
        hands = [self.shelf.begin(0)]
        for turn in range(LONG):
            put(self.shelf, 0, a=None)
            hands.append(self.shelf.begin(0))
        self.assertEqual(self.shelf.reason(0, "a", 2), (("hand", hands[1]), (0, "a", 1)))
        self.assertIsNone(self.shelf.reason(0, "a", LONG))
        told = [(0, "a", born, born + 1, "bare") for born in range(3, LONG + 1)]
        self.same_rows(self.shelf.sweep(LONG * 2), told + [(0, "a", LONG + 1, None, "bare")])
        self.assertEqual({self.shelf.look(hand, "a") for hand in hands[1:]}, {None})
        self.assertEqual(self.shelf.look(hands[0], "a"), 5)


class DeepTest(LongTest):
    def deepen(self, key_by_turn):
        """Branches over branches, each with what is told for its turn."""
        branch = 0
        for turn in range(LONG):
            put(self.shelf, branch, **key_by_turn(turn))
            hand = self.shelf.begin(branch)
            branch = self.shelf.fork(hand)
            self.shelf.close(hand)
        return branch

    def test_each_with_a_version(self):
        top = self.deepen(lambda turn: {"a": turn, "b": 7} if turn == 0 else {"a": turn})
        hand = self.shelf.begin(top)
        self.assertEqual((self.shelf.look(hand, "a"), self.shelf.look(hand, "b")), (LONG - 1, 7))
        self.assertEqual(self.shelf.keys(hand), ["a", "b"])
        self.assertEqual(self.shelf.differ(hand, self.shelf.begin(0)), ["a"])
        for branch in range(LONG - 1):
            self.assertEqual(self.shelf.reason(branch, "a", branch + 1)[0][1], branch if branch else hand + 1)
        self.same_rows(self.shelf.sweep(9), [])
        text = written(self.shelf)
        self.same_rows(written(read(text)).split("\n"), text.split("\n"))

    def test_gone_over_a_value_far_beneath(self):
        top = self.deepen(lambda turn: {"a": 3} if turn == 0 else {"b": turn})
        moment = put(self.shelf, top, a=None)
        self.assertEqual(self.shelf.reason(top, "a", moment), (("head", top), (0, "a", 1)))
        self.assertIsNone(self.shelf.look(self.shelf.begin(top), "a"))

    def test_gone_over_gone(self):
        top = self.deepen(lambda turn: {"a": 3} if turn == 0 else {"a": None})
        told = [(branch, "a", branch + 1, None, "bare") for branch in range(2, LONG)]
        self.same_rows(self.shelf.sweep(LONG * 2), told)
        self.assertEqual(self.shelf.reason(1, "a", 2), (("head", 1), (0, "a", 1)))
        self.assertIsNone(self.shelf.look(self.shelf.begin(top), "a"))

    def test_all_dropped_go_at_once(self):
        top = self.deepen(lambda turn: {"a": turn})
        for branch in range(1, top + 1):
            self.shelf.drop(branch)
        self.assertEqual(len(self.shelf.sweep(LONG - 2)), LONG - 2)
        self.assertEqual(len(self.shelf.standing()[0]), LONG)
        self.same_rows(self.shelf.sweep(LONG), [(LONG - 1, "a", LONG, None, "unseen")])
        self.assertEqual([len(told) for told in self.shelf.standing()], [1, 0, 0])


if __name__ == "__main__":
    unittest.main()
