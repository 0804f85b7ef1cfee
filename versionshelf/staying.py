"""Which versions stay and why, and which of them can go."""

from versionshelf.views import newest


class Judgement:
    """Of one key: the first owner of each version that is seen, and why each version stays that does.

    Versions are told in both as (branch, born).
    """

    def __init__(self, owners, reasons):
        self.owners = owners
        self.reasons = reasons


def views_of_somebody(branches, hands, now):
    """All of somebody's views as (owner, branch, moment), in the order of their owners."""
    of_hands = [(("hand", number), hands[number].branch, hands[number].moment) for number in sorted(hands)]
    of_heads = [(("head", number), number, now) for number in sorted(branches) if branches[number].alive]
    return of_hands + of_heads


def reached(lines, below, number, moment):
    """The version to which a view of a branch comes, where below is told to which one it comes beneath."""
    line = lines[number]
    place = newest(line, moment)
    if place < 0:
        return below[number]
    born, value = line[place]
    return (number, born, value)


def reached_beneath(branches, lines, below, number):
    """The version to which the view comes over which the branch stands."""
    branch = branches[number]
    if branch.beneath is None:
        return None
    return reached(lines, below, branch.beneath, branch.moment)


def first_owners(branches, hands, now, key):
    """For each version of the key to which somebody's view comes, the first such owner."""
    lines = {}
    below = {}
    # A branch stands over an earlier one, so that what is beneath it is known when its turn comes.
    for number in sorted(branches):
        lines[number] = branches[number].lines.get(key, [])
        below[number] = reached_beneath(branches, lines, below, number)
    owners = {}
    for owner, number, moment in views_of_somebody(branches, hands, now):
        version = reached(lines, below, number, moment)
        if version is not None:
            owners.setdefault((version[0], version[1]), owner)
    return owners


def reason_to_stay(key, value, owner, beneath):
    """Why a version stays that has this owner and stands over the version beneath, None where it can go."""
    if owner is None:
        return None
    if value is not None:
        return (owner,)
    if beneath is None or beneath[2] is None:
        return None
    return (owner, (beneath[0], key, beneath[1]))


def reasons_to_stay(branches, owners, key):
    """For each version of the key that stays, why it does."""
    kept = {}
    below = {}
    reasons = {}
    for number in sorted(branches):
        kept[number] = []
        below[number] = reached_beneath(branches, kept, below, number)
        beneath = below[number]
        for born, value in branches[number].lines.get(key, []):
            why = reason_to_stay(key, value, owners.get((number, born)), beneath)
            if why is not None:
                reasons[(number, born)] = why
                kept[number].append((born, value))
                beneath = (number, born, value)
    return reasons


def judge(branches, hands, now, key):
    """The judgement over all versions of one key."""
    owners = first_owners(branches, hands, now, key)
    return Judgement(owners, reasons_to_stay(branches, owners, key))


def births_with_next(line):
    """Of each version of a line its birth and that of the next one, None behind the last."""
    births = [born for born, value in line]
    return list(zip(births, births[1:] + [None]))


def can_go(branches, judged):
    """All versions that can go, as a sweep tells them; judged has the judgement of each key with versions."""
    unseen = []
    bare = []
    for number in sorted(branches):
        lines = branches[number].lines
        for key in sorted(lines):
            judgement = judged[key]
            for born, until in births_with_next(lines[key]):
                if (number, born) not in judgement.owners:
                    unseen.append((number, key, born, until, "unseen"))
                elif (number, born) not in judgement.reasons:
                    bare.append((number, key, born, until, "bare"))
    return unseen + bare
