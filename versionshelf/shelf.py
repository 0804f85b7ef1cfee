"""The shelf: cells by keys, in many versions, in branches, seen by hands."""

from versionshelf.clearing import take_branches, take_marks, take_version
from versionshelf.errors import BadKey, Clash, Dropped, NoBranch, NoCell, NoHand
from versionshelf.parts import Branch, Hand
from versionshelf.staying import can_go, judge
from versionshelf.views import all_seen_by_hand, newest, seen_by_hand
from versionshelf.words import is_key, is_value


class Shelf:
    """A shelf, at first at moment 0 with branch 0 alone."""

    def __init__(self):
        self.now = 0
        self.branches = {0: Branch(None, 0)}
        self.branches_made = 1
        self.hands = {}
        self.hands_made = 0
        # Judgements by keys, kept because many versions of one key are asked for; each change of
        # somebody's views or of the key's versions makes them void.
        self.judged = {}

    def begin(self, branch):
        """Begins a hand in a branch, at the moment that it is now."""
        if not self.branch_there(branch).alive:
            raise Dropped(f"branch {branch} was dropped")
        return self.add_hand(branch, self.now)

    def twin(self, hand):
        """Makes a hand with the branch and moment of another one, without its drafts."""
        held = self.hand_there(hand)
        return self.add_hand(held.branch, held.moment)

    def fork(self, hand):
        """Makes a branch over the hand's branch at the hand's moment."""
        held = self.hand_there(hand)
        number = self.branches_made
        self.branches[number] = Branch(held.branch, held.moment)
        self.branches_made += 1
        self.judged = {}
        return number

    def drop(self, branch):
        """Drops a branch other than 0."""
        there = self.branch_there(branch)
        if branch == 0:
            raise NoBranch("branch 0 can't be dropped")
        if not there.alive:
            raise Dropped(f"branch {branch} was dropped")
        there.alive = False
        self.judged = {}

    def close(self, hand):
        """Lets a hand go."""
        self.hand_there(hand)
        self.let_go(hand)

    def look(self, hand, key):
        """The value of the key that the hand sees, or None."""
        held = self.hand_there(hand)
        check_key(key)
        return seen_by_hand(self.branches, held, key)

    def keys(self, hand):
        """All keys of which the hand sees a value, in order."""
        return sorted(all_seen_by_hand(self.branches, self.hand_there(hand)))

    def differ(self, one, other):
        """The keys of which two hands don't see the same, in order."""
        ones = self.hand_there(one)
        others = self.hand_there(other)
        left = all_seen_by_hand(self.branches, ones)
        right = all_seen_by_hand(self.branches, others)
        both = sorted(set(list(left) + list(right)))
        return [key for key in both if left.get(key) != right.get(key)]

    def write(self, hand, key, value):
        """Makes the hand's draft of a key's value."""
        held = self.hand_there(hand)
        check_key(key)
        if not is_value(value):
            raise BadKey(f"{value} is no value")
        held.drafts[key] = value

    def erase(self, hand, key):
        """Makes the hand's draft by which a key is gone."""
        held = self.hand_there(hand)
        check_key(key)
        held.drafts[key] = None

    def commit(self, hand):
        """Makes versions of the hand's drafts and lets the hand go; the moment that it is then."""
        held = self.hand_there(hand)
        if held.drafts:
            self.settle(held)
        self.let_go(hand)
        return self.now

    def sweep(self, most):
        """Takes away so many versions at the most, and what nobody needs behind that; tells which versions went."""
        for branch in list(self.branches.values()):
            for key in branch.lines:
                self.judgement(key)
        gone = can_go(self.branches, self.judged)[:most]
        for number, key, born, until, why in gone:
            take_version(self.branches, number, key, born)
            self.judged.pop(key, None)
        # The judgements of other keys hold: neither marks nor branches without views or versions count there.
        take_marks(self.branches, self.hands, self.now)
        take_branches(self.branches, self.hands)
        return gone

    def cells(self):
        """All versions as (branch, key, born, value or None), in order."""
        return [
            (number, key, born, value)
            for number in sorted(self.branches)
            for key in sorted(self.branches[number].lines)
            for born, value in self.branches[number].lines[key]
        ]

    def reason(self, branch, key, born):
        """Why a version stays: (owner,) or (owner, beneath), None where it can go."""
        there = self.branch_there(branch)
        check_key(key)
        line = there.lines.get(key, [])
        place = newest(line, born)
        if place < 0 or line[place][0] != born:
            raise NoCell(f"branch {branch} has no version of {key} born at {born}")
        return self.judgement(key).reasons.get((branch, born))

    def marked(self):
        """All marks as (branch, key, moment), in order."""
        return [
            (number, key, self.branches[number].marks[key])
            for number in sorted(self.branches)
            for key in sorted(self.branches[number].marks)
        ]

    def standing(self):
        """The numbers of all branches, of the dropped ones among them, and of all hands, in three lists."""
        numbers = sorted(self.branches)
        dropped = [number for number in numbers if not self.branches[number].alive]
        return (numbers, dropped, sorted(self.hands))

    def branch_there(self, branch):
        """The branch of a number."""
        if branch not in self.branches:
            raise NoBranch(f"there is no branch {branch}")
        return self.branches[branch]

    def hand_there(self, hand):
        """The hand of a number."""
        if hand not in self.hands:
            raise NoHand(f"there is no hand {hand}")
        return self.hands[hand]

    def add_hand(self, branch, moment):
        """Makes a hand; its number."""
        number = self.hands_made
        self.hands[number] = Hand(branch, moment)
        self.hands_made += 1
        self.judged = {}
        return number

    def let_go(self, hand):
        """Lets a hand go that is there."""
        del self.hands[hand]
        self.judged = {}

    def settle(self, held):
        """Makes versions of a hand's drafts, or refuses them all."""
        branch = self.branches[held.branch]
        if not branch.alive:
            raise Dropped(f"branch {held.branch} was dropped")
        names = sorted(held.drafts)
        for key in names:
            if branch.marks.get(key, 0) > held.moment:
                raise Clash(key)
        self.now += 1
        for key in names:
            branch.lines.setdefault(key, []).append((self.now, held.drafts[key]))
            branch.marks[key] = self.now

    def judgement(self, key):
        """The judgement over the versions of a key, as they are now."""
        if key not in self.judged:
            self.judged[key] = judge(self.branches, self.hands, self.now, key)
        return self.judged[key]


def check_key(key):
    """Refuses what is no key."""
    if not is_key(key):
        raise BadKey(f"{key} is no key")
