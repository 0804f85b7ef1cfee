"""Shelves written as texts, and read from them."""

from versionshelf.errors import BadText
from versionshelf.parts import Branch, Hand
from versionshelf.shelf import Shelf
from versionshelf.words import is_key, is_value

FIGURES = "0123456789"
MOST_FIGURES = 9
GREATEST_NUMBER = 999999999


def written(shelf):
    """The text of a shelf."""
    # No other number of a shelf is greater than the greatest of these three, or than the greatest value.
    if max(shelf.now, shelf.branches_made, shelf.hands_made) > GREATEST_NUMBER:
        raise BadText("a shelf with a number of more than nine figures isn't written")
    rows = [f"shelf {shelf.now} {shelf.branches_made} {shelf.hands_made}"]
    rows.extend(branch_rows(shelf))
    rows.extend([f"cell {number} {key} {born} {shown(value)}" for number, key, born, value in shelf.cells()])
    rows.extend([f"mark {number} {key} {moment}" for number, key, moment in shelf.marked()])
    rows.extend(hand_rows(shelf))
    return "\n".join(rows)


def shown(value):
    """The word for a value, or for a key that is gone."""
    return "gone" if value is None else str(value)


def branch_rows(shelf):
    """The rows of all branches but 0."""
    rows = []
    for number in sorted(shelf.branches):
        branch = shelf.branches[number]
        state = "alive" if branch.alive else "dropped"
        if number != 0:
            rows.append(f"branch {number} of {branch.beneath} at {branch.moment} {state}")
    return rows


def hand_rows(shelf):
    """The rows of all hands, each with those of its drafts behind it."""
    rows = []
    for number in sorted(shelf.hands):
        hand = shelf.hands[number]
        rows.append(f"hand {number} in {hand.branch} at {hand.moment}")
        for key in sorted(hand.drafts):
            rows.append(f"draft {number} {key} {shown(hand.drafts[key])}")
    return rows


def read(text):
    """The shelf of a text."""
    first, *rows = text.split("\n")
    shelf = Shelf()
    read_head(shelf, first.split(" "))
    last = (0,)
    for row in rows:
        place = read_row(shelf, row.split(" "))
        # Strictly rising places keep the rows in order, and none of them is told twice.
        need(last < place, "a row is out of order or told twice")
        last = place
    return shelf


def need(holds, why):
    """Refuses a text for which something doesn't hold."""
    if not holds:
        raise BadText(why)


def read_head(shelf, words):
    """Reads the words of the first row."""
    need(len(words) == 4 and words[0] == "shelf", "the first row isn't that of a shelf")
    shelf.now = number_of(words[1])
    shelf.branches_made = number_of(words[2])
    shelf.hands_made = number_of(words[3])
    need(shelf.branches_made >= 1, "branch 0 is always there")


def read_row(shelf, words):
    """Reads the words of a row behind the first; its place among the rows."""
    match words:
        case ["branch", number, "of", beneath, "at", moment, state]:
            return read_branch(shelf, number_of(number), number_of(beneath), moment_of(shelf, moment), state)
        case ["cell", number, key, born, value]:
            return read_cell(shelf, branch_of(shelf, number), key_of(key), change_of(shelf, born), value_of(value))
        case ["mark", number, key, moment]:
            return read_mark(shelf, branch_of(shelf, number), key_of(key), change_of(shelf, moment))
        case ["hand", number, "in", branch, "at", moment]:
            return read_hand(shelf, number_of(number), branch_of(shelf, branch), moment_of(shelf, moment))
        case ["draft", number, key, value]:
            return read_draft(shelf, number_of(number), key_of(key), value_of(value))
        case _:
            raise BadText("a row of no known form")


def read_branch(shelf, number, beneath, moment, state):
    """Puts a branch onto the shelf."""
    need(number < shelf.branches_made, "a branch that hasn't been made yet")
    need(number not in shelf.branches, "a branch is told twice")
    need(beneath < number and beneath in shelf.branches, "a branch over one that isn't there")
    need(state in ("alive", "dropped"), "a branch that is neither alive nor dropped")
    branch = Branch(beneath, moment)
    branch.alive = state == "alive"
    shelf.branches[number] = branch
    return (1, number)


def read_cell(shelf, number, key, born, value):
    """Puts a version onto the shelf."""
    shelf.branches[number].lines.setdefault(key, []).append((born, value))
    return (2, number, key, born)


def read_mark(shelf, number, key, moment):
    """Puts a mark onto the shelf."""
    shelf.branches[number].marks[key] = moment
    return (3, number, key)


def read_hand(shelf, number, branch, moment):
    """Puts a hand onto the shelf."""
    need(number < shelf.hands_made, "a hand that hasn't been made yet")
    need(number not in shelf.hands, "a hand is told twice")
    shelf.hands[number] = Hand(branch, moment)
    return (4, number)


def read_draft(shelf, number, key, value):
    """Puts a draft into its hand."""
    need(number in shelf.hands, "a draft of a hand that isn't there")
    shelf.hands[number].drafts[key] = value
    return (4, number, key)


def number_of(word):
    """The number that a word tells."""
    need(1 <= len(word) <= MOST_FIGURES, "a number of no figures or of too many")
    need(all(sign in FIGURES for sign in word), "a number with another sign than figures")
    need(word == "0" or word[0] != "0", "a number with a nought ahead of it")
    return int(word)


def moment_of(shelf, word):
    """The moment that a word tells."""
    moment = number_of(word)
    need(moment <= shelf.now, "a moment later than now")
    return moment


def change_of(shelf, word):
    """The moment of a birth or of a mark that a word tells."""
    moment = moment_of(shelf, word)
    need(moment >= 1, "a birth or a mark at moment 0")
    return moment


def branch_of(shelf, word):
    """The branch that is there and that a word tells."""
    number = number_of(word)
    need(number in shelf.branches, "a branch that isn't there")
    return number


def key_of(word):
    """The key that a word tells."""
    need(is_key(word), "what is no key")
    return word


def value_of(word):
    """The value that a word tells, None for a key that is gone."""
    if word == "gone":
        return None
    value = number_of(word)
    need(is_value(value), "what is no value")
    return value
