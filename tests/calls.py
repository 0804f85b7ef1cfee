"""Runs of calls, drawn by a seed so that each run is the same every time."""

import random

KEYS = ["a", "b", "cc", "zzzzzzzz"]
STRANGE_KEYS = ["", "abcdefghi", "A", "a b", "a1", "\u00e4", "a\n"]
STRANGE_NUMBERS = [-1, 1000000007]


def drawn_calls(seed, hands=6):
    """A source of calls, with about so many hands held at once: ask it with a shelf for the next call."""
    return CallSource(random.Random(seed), hands)


class CallSource:
    def __init__(self, dice, hands):
        self.dice = dice
        self.hands = hands

    def hand(self, shelf):
        hands = shelf.standing()[2]
        if not hands or self.dice.random() < 0.02:
            return self.dice.choice(STRANGE_NUMBERS + [0, 1, 2])
        # The newest hand is taken more often: it clashes less, so that more versions come.
        return hands[-1] if self.dice.random() < 0.5 else self.dice.choice(hands)

    def branch(self, shelf):
        if self.dice.random() < 0.04:
            return self.dice.choice(STRANGE_NUMBERS + list(range(8)))
        return self.dice.choice(shelf.standing()[0])

    def key(self):
        if self.dice.random() < 0.02:
            return self.dice.choice(STRANGE_KEYS)
        return self.dice.choice(KEYS)

    def value(self):
        if self.dice.random() < 0.02:
            return self.dice.choice([-1, 1000000])
        return self.dice.choice([0, 1, 2, 999999])

    def name(self, shelf):
        held = len(shelf.standing()[2])
        if held == 0 and self.dice.random() < 0.9:
            return "begin"
        names = ["begin"] * (10 if held < self.hands else 3) + ["close"] * (1 if held < self.hands else 6)
        names += ["twin", "fork", "fork", "drop", "look", "keys", "differ"]
        return self.dice.choice(names + ["write"] * 8 + ["erase"] * 6 + ["commit"] * 9)

    def next_call(self, shelf):
        """The next call as (name, argument, ..)."""
        name = self.name(shelf)
        if name in ("begin", "drop"):
            return (name, self.branch(shelf))
        if name in ("twin", "fork", "close", "commit", "keys"):
            return (name, self.hand(shelf))
        if name == "differ":
            return (name, self.hand(shelf), self.hand(shelf))
        if name == "write":
            return (name, self.hand(shelf), self.key(), self.value())
        return (name, self.hand(shelf), self.key())
