"""What a view of a branch at a moment sees."""


def newest(line, moment):
    """The place in a line of its newest version born no later than the moment, -1 where there is none."""
    low = 0
    high = len(line)
    while low < high:
        middle = (low + high) // 2
        if line[middle][0] <= moment:
            low = middle + 1
        else:
            high = middle
    return low - 1


def seen_value(branches, number, moment, key):
    """The value of the key that the view sees, or None."""
    while number is not None:
        branch = branches[number]
        line = branch.lines.get(key, [])
        place = newest(line, moment)
        if place >= 0:
            return line[place][1]
        number = branch.beneath
        moment = branch.moment
    return None


def seen_by_hand(branches, hand, key):
    """The value of the key that the hand sees, or None."""
    if key in hand.drafts:
        return hand.drafts[key]
    return seen_value(branches, hand.branch, hand.moment, key)


def all_seen_by_hand(branches, hand):
    """By keys, all values that the hand sees; a key that is gone isn't among them."""
    found = {key: hand.drafts[key] for key in hand.drafts}
    number = hand.branch
    moment = hand.moment
    while number is not None:
        branch = branches[number]
        for key, line in branch.lines.items():
            place = newest(line, moment)
            if place >= 0 and key not in found:
                found[key] = line[place][1]
        number = branch.beneath
        moment = branch.moment
    return {key: found[key] for key in found if found[key] is not None}
