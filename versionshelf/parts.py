"""What a shelf is made of: branches and hands."""


class Branch:
    """A branch, with the branch and moment over which it stands (None for branch 0).

    `lines` has for each key with versions the list of (born, value), births rising, the value None where
    the key is gone; `marks` has for a key the moment of its last change.
    """

    def __init__(self, beneath, moment):
        self.beneath = beneath
        self.moment = moment
        self.alive = True
        self.lines = {}
        self.marks = {}


class Hand:
    """A hand: its branch, its moment, and its drafts by keys, None where the key is gone by the draft."""

    def __init__(self, branch, moment):
        self.branch = branch
        self.moment = moment
        self.drafts = {}
