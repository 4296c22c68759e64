"""The commands of a desk: which strings are some, and what their words stand for."""

from rootsround.numerals import count_in, number_in

FIRST_SIGNS = "abcdefghijklmnopqrstuvwxyz"
NAME_SIGNS = "abcdefghijklmnopqrstuvwxyz0123456789"
MOST_SIGNS = 8
MOST_NUMBERS = 25
BEYOND_NUMBERS = 1000000
BEYOND_COUNTS = 10000

# the kinds of the words behind the first one: OTHER is of the kind of NAME, FRESH a label of a claim that is noted
DEEDS = {
    "poly": ("NEW", "NUMBERS"),
    "sum": ("NEW", "POLY", "POLY"), "less": ("NEW", "POLY", "POLY"), "times": ("NEW", "POLY", "POLY"),
    "into": ("NEW", "POLY", "POLY"), "quotient": ("NEW", "POLY", "POLY"), "rest": ("NEW", "POLY", "POLY"),
    "common": ("NEW", "POLY", "POLY"),
    "derived": ("NEW", "POLY"), "odd": ("NEW", "POLY"), "scaled": ("NEW", "POLY", "NUMBER"),
    "amount": ("POLY", "COUNT", "NUMBER"),
    "root": ("NEW", "POLY"), "told": ("NEW", "COUNT"),
    "moved": ("NEW", "ROOT", "NUMBER", "NUMBER"), "grown": ("NEW", "ROOT", "NUMBER"),
    "made": ("NEW", "POLY", "NUMBER"), "line": ("NEW", "POLY", "POLY"), "put": ("NEW", "ROOT", "POLY"),
    "inside": ("NEW", "ROOT"), "nearest": ("NEW", "ROOT"), "left": ("NEW", "ROOT", "POLY"),
    "unit": ("NEW", "ROOT", "POLY", "POLY"), "least": ("NEW", "ROOT"),
    "power": ("NEW", "UNIT", "COUNT"), "contrary": ("NEW", "UNIT"),
    "first": ("NEW", "UNIT"), "second": ("NEW", "UNIT"), "logof": ("NEW", "UNIT"),
    "drop": ("NAME",), "forget": ("LABEL",)}
# the kinds of the words behind the word of a claim
CLAIMS = {
    "round": ("ROOT",), "never": ("ROOT",), "log": ("ROOT", "POLY"), "nolog": ("ROOT", "POLY"),
    "unit": ("ROOT", "POLY", "POLY"), "nounit": ("ROOT", "POLY", "POLY"),
    "alike": ("ROOT", "ROOT"), "unlike": ("ROOT", "ROOT"),
    "sweeps": ("ROOT", "POLY", "NUMBER"), "leaves": ("ROOT", "POLY", "NUMBER"),
    "keeps": ("ROOT", "COUNT"), "spoils": ("ROOT", "COUNT")}
OTHERS = {
    "undo": (), "redo": (), "state": ("LABEL",), "states": (), "claimed": ("LABEL",), "names": (),
    "show": ("NAME",), "degree": ("NAME",), "norm": ("UNIT",), "worth": ("POLY", "NUMBER"), "reals": ("POLY",),
    "chain": ("ROOT", "COUNT"), "period": ("ROOT",), "primes": ("ROOT", "COUNT"), "modulo": ("ROOT", "COUNT"),
    "same": ("NAME", "OTHER")}


def is_name(value):
    """Whether the value is a string of one to eight small letters and digits, the first one a letter."""
    if not isinstance(value, str) or len(value) < 1 or len(value) > MOST_SIGNS:
        return False
    return value[0] in FIRST_SIGNS and all([sign in NAME_SIGNS for sign in value])


def short_number_in(word):
    """The Ratio that the word tells, with at most six digits above and below the stroke; None if it tells none."""
    found = number_in(word)
    if found is None or abs(found.top) >= BEYOND_NUMBERS or found.bottom >= BEYOND_NUMBERS:
        return None
    return found


def short_count_in(word):
    """The COUNT of at most four digits that the word tells; None if it tells none."""
    found = count_in(word)
    return None if found is None or found >= BEYOND_COUNTS else found


def short_numbers_in(word):
    """The list of Ratios, at most 25, that the word tells; None if it tells none."""
    if word == "-":
        return []
    pieces = word.split(",")
    found = [short_number_in(piece) for piece in pieces]
    return None if len(found) > MOST_NUMBERS or any([number is None for number in found]) else found


def is_of_kind(kind, word):
    """Whether the word may stand for this kind, whatever is kept."""
    if kind == "NUMBER":
        return short_number_in(word) is not None
    if kind == "NUMBERS":
        return short_numbers_in(word) is not None
    return short_count_in(word) is not None if kind == "COUNT" else is_name(word)


def kinds_of(words):
    """The kinds of the words behind the first one; None if no command has such words ahead."""
    if words[0] == "claim":
        if len(words) < 3 or words[2] not in CLAIMS:
            return None
        return ("FRESH", "CLAIM") + CLAIMS[words[2]]
    if words[0] in DEEDS:
        return DEEDS[words[0]]
    return OTHERS[words[0]] if words[0] in OTHERS else None


def parted_command(value):
    """A tuple of the words of a command and the kinds of those behind the first one; None if it is none."""
    if not isinstance(value, str):
        return None
    words = value.split(" ")
    kinds = kinds_of(words)
    if kinds is None or len(kinds) != len(words) - 1:
        return None
    if not all([kind == "CLAIM" or is_of_kind(kind, word) for kind, word in zip(kinds, words[1:])]):
        return None
    return words, kinds


def is_first_word(word):
    """Whether commands that begin with the word are deeds."""
    return word == "claim" or word in DEEDS


def is_command(value):
    """Whether the value is a string that is a command by its words alone."""
    return parted_command(value) is not None


def is_deed(value):
    """Whether the value is a command that is a deed."""
    parts = parted_command(value)
    return parts is not None and is_first_word(parts[0][0])
