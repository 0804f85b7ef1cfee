"""The paper's points written down as plainly as can be, to hold the program against.

A PlainShelf keeps two lists of versions: `ever`, of which nothing is taken away, by which hands see, and `there`, from
which sweeps take.  Every answer is reckoned anew from these lists, straight by the words of the point.
"""

from versionshelf.errors import BadKey, Clash, Dropped, NoBranch, NoCell, NoHand

LETTERS = "abcdefghijklmnopqrstuvwxyz"


def answer(shelf, name, *given):
    """What a call tells, or how it is refused."""
    try:
        return ("told", getattr(shelf, name)(*given))
    except ValueError as why:
        return ("refused", why.__class__.__name__, getattr(why, "key", None))


class PlainShelf:
    def __init__(self):
        self.now = 0
        self.branches = {0: {"beneath": None, "at": None, "alive": True}}
        self.hands = {}
        self.branches_made = 1
        self.hands_made = 0
        self.ever = []
        self.there = []
        self.marks = {}

    # Point 5.
    def comes_to(self, versions, branch, moment, key):
        while True:
            own = [row for row in versions if row[0] == branch and row[1] == key and row[2] <= moment]
            if own:
                return max(own, key=lambda row: row[2])
            if branch == 0:
                return None
            branch, moment = self.parents[branch]

    @property
    def parents(self):
        return {number: (told["beneath"], told["at"]) for number, told in self.branches.items()}

    def sees(self, hand, key):
        if key in self.hands[hand]["drafts"]:
            return self.hands[hand]["drafts"][key]
        version = self.comes_to(self.ever, self.hands[hand]["branch"], self.hands[hand]["moment"], key)
        return None if version is None else version[3]

    def every_key(self):
        return sorted({row[1] for row in self.ever} | {key for hand in self.hands.values() for key in hand["drafts"]})

    # Points 9, 10, 13.
    def views(self):
        rows = [(("hand", n), self.hands[n]["branch"], self.hands[n]["moment"]) for n in sorted(self.hands)]
        return rows + [(("head", n), n, self.now) for n in sorted(self.branches) if self.branches[n]["alive"]]

    def owners(self):
        found = {}
        for key in {row[1] for row in self.there}:
            for owner, branch, moment in self.views():
                version = self.comes_to(self.there, branch, moment, key)
                if version is not None:
                    found.setdefault(version[:3], owner)
        return found

    def beneath(self, version, why):
        branch, moment = version[0], version[2] - 1
        while branch is not None:
            staying = [
                row
                for row in self.there
                if row[0] == branch and row[1] == version[1] and row[2] <= moment and self.staying(row, why)
            ]
            if staying:
                return max(staying, key=lambda row: row[2])
            branch, moment = self.parents[branch]
        return None

    def staying(self, version, why):
        """Why a version stays, or None; `why` has the owners, and what was reckoned before."""
        name = version[:3]
        if name not in why["known"]:
            owner = why["owners"].get(name)
            told = None
            if owner is not None and version[3] is not None:
                told = (owner,)
            elif owner is not None:
                beneath = self.beneath(version, why)
                if beneath is not None and beneath[3] is not None:
                    told = (owner, beneath[:3])
            why["known"][name] = told
        return why["known"][name]

    def reasons(self):
        why = {"owners": self.owners(), "known": {}}
        return {row[:3]: self.staying(row, why) for row in self.there}

    # The calls.
    def need_hand(self, hand):
        if hand not in self.hands:
            raise NoHand("plain")
        return self.hands[hand]

    def need_branch(self, branch):
        if branch not in self.branches:
            raise NoBranch("plain")
        return self.branches[branch]

    def need_key(self, key):
        if len(key) not in range(1, 9) or not set(key) <= set(LETTERS):
            raise BadKey("plain")

    def add_hand(self, branch, moment):
        self.hands[self.hands_made] = {"branch": branch, "moment": moment, "drafts": {}}
        self.hands_made += 1
        return self.hands_made - 1

    def begin(self, branch):
        if not self.need_branch(branch)["alive"]:
            raise Dropped("plain")
        return self.add_hand(branch, self.now)

    def twin(self, hand):
        held = self.need_hand(hand)
        return self.add_hand(held["branch"], held["moment"])

    def fork(self, hand):
        held = self.need_hand(hand)
        self.branches[self.branches_made] = {"beneath": held["branch"], "at": held["moment"], "alive": True}
        self.branches_made += 1
        return self.branches_made - 1

    def drop(self, branch):
        told = self.need_branch(branch)
        if branch == 0:
            raise NoBranch("plain")
        if not told["alive"]:
            raise Dropped("plain")
        told["alive"] = False

    def close(self, hand):
        self.need_hand(hand)
        del self.hands[hand]

    def look(self, hand, key):
        self.need_hand(hand)
        self.need_key(key)
        return self.sees(hand, key)

    def keys(self, hand):
        self.need_hand(hand)
        return [key for key in self.every_key() if self.sees(hand, key) is not None]

    def differ(self, one, other):
        self.need_hand(one)
        self.need_hand(other)
        return [key for key in self.every_key() if self.sees(one, key) != self.sees(other, key)]

    def write(self, hand, key, value):
        held = self.need_hand(hand)
        self.need_key(key)
        if value not in range(1000000):
            raise BadKey("plain")
        held["drafts"][key] = value

    def erase(self, hand, key):
        held = self.need_hand(hand)
        self.need_key(key)
        held["drafts"][key] = None

    def commit(self, hand):
        held = self.need_hand(hand)
        if held["drafts"]:
            if not self.branches[held["branch"]]["alive"]:
                raise Dropped("plain")
            for key in sorted(held["drafts"]):
                changes = [row[2] for row in self.ever if row[0] == held["branch"] and row[1] == key]
                if any(born > held["moment"] for born in changes):
                    raise Clash(key)
            self.now += 1
            for key, value in held["drafts"].items():
                self.ever.append((held["branch"], key, self.now, value))
                self.there.append((held["branch"], key, self.now, value))
                self.marks[held["branch"], key] = self.now
        del self.hands[hand]
        return self.now

    def sweep(self, most):
        owners = self.owners()
        unseen = [row for row in self.cells() if row[:3] not in owners]
        reasons = self.reasons()
        bare = [row for row in self.cells() if row[:3] in owners and reasons[row[:3]] is None]
        told = [self.told(row, "unseen") for row in unseen] + [self.told(row, "bare") for row in bare]
        going = {row[:3] for row in told[:most]}
        self.there = [row for row in self.there if row[:3] not in going]
        self.take_marks()
        while self.take_a_branch():
            pass
        return told[:most]

    def told(self, version, why):
        later = [row[2] for row in self.there if row[:2] == version[:2] and row[2] > version[2]]
        return version[:3] + (min(later, default=None), why)

    def take_marks(self):
        for branch, key in list(self.marks):
            moments = [hand["moment"] for hand in self.hands.values() if hand["branch"] == branch]
            if all(self.marks[branch, key] <= moment for moment in moments):
                del self.marks[branch, key]

    def take_a_branch(self):
        for number in list(self.branches):
            used = any(hand["branch"] == number for hand in self.hands.values())
            under = any(told["beneath"] == number for told in self.branches.values())
            filled = any(row[0] == number for row in self.there)
            if not (self.branches[number]["alive"] or used or under or filled):
                del self.branches[number]
                return True
        return False

    def cells(self):
        return sorted(self.there, key=lambda row: row[:3])

    def reason(self, branch, key, born):
        self.need_branch(branch)
        self.need_key(key)
        reasons = self.reasons()
        if (branch, key, born) not in reasons:
            raise NoCell("plain")
        return reasons[branch, key, born]

    def marked(self):
        return sorted((branch, key, moment) for (branch, key), moment in self.marks.items())

    def standing(self):
        dropped = [number for number in sorted(self.branches) if not self.branches[number]["alive"]]
        return (sorted(self.branches), dropped, sorted(self.hands))

    def text(self):
        rows = [["shelf", self.now, self.branches_made, self.hands_made]]
        for number in sorted(self.branches):
            told = self.branches[number]
            if number:
                state = "alive" if told["alive"] else "dropped"
                rows.append(["branch", number, "of", told["beneath"], "at", told["at"], state])
        rows += [["cell", *row[:3], "gone" if row[3] is None else row[3]] for row in self.cells()]
        rows += [["mark", *row] for row in self.marked()]
        for number in sorted(self.hands):
            hand = self.hands[number]
            rows.append(["hand", number, "in", hand["branch"], "at", hand["moment"]])
            for key in sorted(hand["drafts"]):
                value = hand["drafts"][key]
                rows.append(["draft", number, key, "gone" if value is None else value])
        return "\n".join(" ".join(str(word) for word in row) for row in rows)
