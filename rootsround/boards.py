"""What the deeds of a desk change: its things, its claims, and how these stand."""

from rootsround.basics import copied
from rootsround.claims import is_claim, is_true
from rootsround.commands import CLAIMS, short_count_in, short_number_in, short_numbers_in
from rootsround.deeds import made_thing, with_amount
from rootsround.errors import (
    InvalidClaim, LabelTaken, LimitError, NameTaken, TooMany, UnknownLabel, UnknownName)
from rootsround.roots import Root

MOST_NAMES = 12
MOST_LABELS = 12
GONE = "gone"


class Board:
    """Things by their names, and by their labels the words of claims and how these stand; it never changes.

    How a claim stands is a tuple of the claim, None if it wants what is not
    kept, and the state.
    """

    def __init__(self, things, notes, standings):
        self.things = things
        self.notes = notes
        self.standings = standings


def kind_of(thing):
    """The kind of something kept."""
    if isinstance(thing, Root):
        return "ROOT"
    return "POLY" if isinstance(thing, list) else "UNIT"


def is_kept(board, name, kind):
    """Whether something of the kind is kept under the name; NAME is any kind."""
    return name in board.things and (kind == "NAME" or kind_of(board.things[name]) == kind)


def kept(board, name, kind):
    """What is kept under the name, which is of the kind."""
    if not is_kept(board, name, kind):
        raise UnknownName(name)
    return board.things[name]


def value_of(board, kind, word):
    """What a word stands for in a command; a new name, a label and the word of a claim for itself."""
    if kind == "NUMBER":
        return short_number_in(word)
    if kind == "NUMBERS":
        return short_numbers_in(word)
    if kind == "COUNT":
        return short_count_in(word)
    if kind in ("POLY", "ROOT", "UNIT", "NAME"):
        return kept(board, word, kind)
    if kind == "NEW" and word in board.things:
        raise NameTaken(word)
    if kind == "FRESH" and word in board.notes:
        raise LabelTaken(word)
    if kind == "LABEL" and word not in board.notes:
        raise UnknownLabel(word)
    return word


def values_of(board, words, kinds):
    """What the words behind the first one of a command stand for."""
    values = []
    for kind, word in zip(kinds, words):
        wanted = kind_of(values[0]) if kind == "OTHER" else kind
        values.append(value_of(board, wanted, word))
    return values


def claim_told(board, note):
    """The claim of these words, with what is kept; None if something that it wants is not kept."""
    kinds = CLAIMS[note[0]]
    for kind, word in zip(kinds, note[1:]):
        if kind in ("POLY", "ROOT") and not is_kept(board, word, kind):
            return None
    return tuple([note[0]] + values_of(board, note[1:], kinds))


def state_of(claim):
    """The state of a label with the claim, which may be None or no claim."""
    if not is_claim(claim):
        return GONE
    try:
        return "true" if is_true(claim) else "false"
    except LimitError:
        return GONE


def standing_of(board, label):
    """How the claim of a label stands: as it stood, where nothing that it wants is another one."""
    claim = claim_told(board, board.notes[label])
    if label in board.standings and board.standings[label][0] == claim:
        return board.standings[label]
    return claim, state_of(claim)


def judged(board, things, notes):
    """The Board with these things and words of claims, behind another one."""
    waiting = Board(things, notes, {label: board.standings[label] for label in notes if label in board.standings})
    return Board(things, notes, {label: standing_of(waiting, label) for label in notes})


def without(table, key):
    """The dict without the key."""
    return {other: table[other] for other in table if other != key}


def noted(board, label, note):
    """The Board with a claim noted under a new label."""
    after = judged(board, board.things, {**board.notes, label: note})
    claim, state = after.standings[label]
    if state == GONE:
        raise InvalidClaim(copied(claim))
    if len(after.notes) > MOST_LABELS:
        raise TooMany("labels", MOST_LABELS)
    return after


def with_new(board, name, thing):
    """The Board with something kept under a new name."""
    if len(board.things) >= MOST_NAMES:
        raise TooMany("names", MOST_NAMES)
    return judged(board, {**board.things, name: thing}, board.notes)


def behind(board, words, values):
    """The Board behind a deed of these words, which stand for these values."""
    word, name = words[0], words[1]
    if word == "claim":
        return noted(board, name, words[2:])
    if word == "forget":
        return judged(board, board.things, without(board.notes, name))
    if word == "drop":
        return judged(board, without(board.things, name), board.notes)
    if word == "amount":
        return judged(board, {**board.things, name: with_amount(*values)}, board.notes)
    return with_new(board, name, made_thing(word, values[1:]))


def told_states(board, labels):
    """The labels, sorted, with their states; `-` for none."""
    found = [f"{label} {board.standings[label][1]}" for label in sorted(labels)]
    return ", ".join(found) if found else "-"


def changes(before, after):
    """The labels whose states are other ones on the later Board than on the one before, with these states."""
    labels = [label for label in after.standings if label not in before.standings
              or before.standings[label][1] != after.standings[label][1]]
    return told_states(after, labels)
