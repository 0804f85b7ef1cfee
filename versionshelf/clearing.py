"""What a sweep takes away: versions, marks, and dropped branches."""

from versionshelf.views import newest


def take_version(branches, number, key, born):
    """Takes a version away, and its line where that was the last one of it."""
    lines = branches[number].lines
    line = lines[key]
    del line[newest(line, born)]
    if not line:
        del lines[key]


def first_moments(hands):
    """By branches, the first moment that a hand in it has; a branch without hands isn't among them."""
    first = {}
    for hand in list(hands.values()):
        first[hand.branch] = min(hand.moment, first.get(hand.branch, hand.moment))
    return first


def take_marks(branches, hands, now):
    """Takes away the marks by which no hand's commit can be refused any more."""
    first = first_moments(hands)
    for number in sorted(branches):
        branch = branches[number]
        # No mark is later than now: without a hand all marks go.
        moment = first.get(number, now)
        branch.marks = {key: told for key, told in branch.marks.items() if told > moment}


def take_branches(branches, hands):
    """Takes away the dropped branches that nobody needs any more."""
    needed = {hand.branch: True for hand in list(hands.values())}
    # A branch stands over an earlier one, which may go when it has gone.
    latest_first = sorted(branches, reverse=True)
    for number in latest_first:
        branch = branches[number]
        if branch.alive or branch.lines or number in needed:
            needed[branch.beneath] = True
        else:
            del branches[number]
