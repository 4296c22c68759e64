"""A second desk for the tests: each state judged anew, each deed kept with what was ahead of it."""

from rootsround import errors, logs, makes, moves, parts, polys, powers, primes, rests, signs, taken, units, verdicts
from rootsround import chains, inner
from rootsround.claims import is_claim, is_true
from rootsround.commands import is_command, is_deed
from rootsround.ratios import Ratio
from rootsround.roots import Root

CLAIMS = {"round": "R", "never": "R", "log": "RP", "nolog": "RP", "unit": "RPP", "nounit": "RPP", "alike": "RR",
          "unlike": "RR", "sweeps": "RPN", "leaves": "RPN", "keeps": "RC", "spoils": "RC"}
# what stands behind the new name: P, R, U for things, N for a number, C for a count, L for numbers
MADE = {"poly": "L", "sum": "PP", "less": "PP", "times": "PP", "into": "PP", "quotient": "PP", "rest": "PP",
        "common": "PP", "derived": "P", "odd": "P", "scaled": "PN", "root": "P", "told": "C", "moved": "RNN",
        "grown": "RN", "made": "PN", "line": "PP", "put": "RP", "inside": "R", "nearest": "R", "left": "RP",
        "unit": "RPP", "least": "R", "power": "UC", "contrary": "U", "first": "U", "second": "U", "logof": "U"}


def number(word):
    top, _, bottom = word.partition("/")
    return Ratio(int(top), int(bottom or "1"))


def kind(thing):
    return "P" if isinstance(thing, list) else "R" if isinstance(thing, Root) else "U"


def shown(poly):
    return ",".join(str(one) for one in poly) or "-"


def least(root):
    unit = verdicts.round_unit(root)
    if unit is None:
        raise errors.NeverRound()
    return root, unit


def unit_of(root, first, second):
    if not units.is_unit(root, (first, second)):
        raise errors.InvalidUnit((first, second))
    return root, (first, second)


WAYS = {
    "poly": polys.told, "sum": polys.plus, "less": polys.minus, "times": polys.times, "into": polys.put_in,
    "quotient": lambda p, q: polys.divided(p, q)[0], "rest": lambda p, q: polys.divided(p, q)[1],
    "common": parts.common, "derived": polys.derived, "odd": parts.odd_part, "scaled": polys.scaled, "root": Root,
    "told": inner.told_root, "moved": moves.moved_root, "grown": moves.scaled_root,
    "made": lambda p, c: makes.made_by(p, c)[0], "line": lambda v, h: makes.line_root(v, h)[0],
    "put": lambda r, f: inner.put_root(r, f)[0], "inside": lambda r: r.poly(), "nearest": lambda r: r.nearest(),
    "left": lambda r, p: taken.taken_off(r, p)[1], "unit": unit_of, "least": least,
    "power": lambda u, k: (u[0], powers.power_unit(u[0], u[1], k)),
    "contrary": lambda u: (u[0], units.contrary(u[0], u[1])), "first": lambda u: u[1][0], "second": lambda u: u[1][1],
    "logof": lambda u: logs.log_head(u[0], u[1])}


class OwnDesk:
    def __init__(self):
        self.things, self.notes = {}, {}
        self.done, self.undone = [], []

    def thing(self, name, wanted):
        if name not in self.things or wanted != "A" and kind(self.things[name]) != wanted:
            raise errors.UnknownName(name)
        return self.things[name]

    def given(self, shape, words):
        return [self.thing(word, one) if one in "PRU" else number(word) if one == "N" else int(word) if one == "C"
                else [] if word == "-" else [number(part) for part in word.split(",")]
                for one, word in zip(shape, words)]

    def claim(self, label):
        words = self.notes[label]
        try:
            return tuple([words[0]] + self.given(CLAIMS[words[0]], words[1:]))
        except errors.UnknownName:
            return None

    def state(self, label):
        claim = self.claim(label)
        if not is_claim(claim):
            return "gone"
        try:
            return {True: "true", False: "false"}[is_true(claim)]
        except errors.TooMany:
            return "gone"

    def states(self):
        return {label: self.state(label) for label in self.notes}

    def do(self, line):
        if not is_command(line):
            raise errors.InvalidCommand(line)
        words = line.split(" ")
        if is_deed(line):
            return self.deed(line, words)
        if words[0] == "undo":
            if not self.done:
                raise errors.NothingToUndo()
            line, things, notes = self.done.pop()
            self.undone.append((line, self.things, self.notes))
            self.things, self.notes = things, notes
            return line
        if words[0] == "redo":
            if not self.undone:
                raise errors.NothingToRedo()
            line, things, notes = self.undone.pop()
            self.done.append((line, self.things, self.notes))
            self.things, self.notes = things, notes
            return line
        return self.ask(words)

    def deed(self, line, words):
        things, notes = dict(self.things), dict(self.notes)
        if words[0] in MADE and words[1] in things:
            raise errors.NameTaken(words[1])
        if words[0] == "claim":
            self.note(words, notes)
        elif words[0] == "forget":
            if words[1] not in notes:
                raise errors.UnknownLabel(words[1])
            del notes[words[1]]
        elif words[0] == "drop":
            self.thing(words[1], "A")
            del things[words[1]]
        elif words[0] == "amount":
            poly, place, amount = list(self.thing(words[1], "P")), int(words[2]), number(words[3])
            if place > 24:
                raise errors.InvalidPlace(place)
            poly += [Ratio(0)] * (place + 1 - len(poly))
            poly[place] = amount
            things[words[1]] = polys.told(poly)
        else:
            given = self.given(MADE[words[0]], words[2:])
            things[words[1]] = WAYS[words[0]](*given)
            if len(things) > 12:
                raise errors.TooMany("names", 12)
        if len(self.done) >= 300:
            raise errors.TooMany("deeds", 300)
        before = self.states()
        self.done.append((line, self.things, self.notes))
        self.undone = []
        self.things, self.notes = things, notes
        changed = [f"{label} {state}" for label, state in sorted(self.states().items()) if before.get(label) != state]
        return ", ".join(changed) or "-"

    def note(self, words, notes):
        label = words[1]
        if label in notes:
            raise errors.LabelTaken(label)
        claim = tuple([words[2]] + self.given(CLAIMS[words[2]], words[3:]))
        try:
            held = is_claim(claim) and is_true(claim) is not None
        except errors.TooMany:
            held = False
        if not held:
            raise errors.InvalidClaim(claim)
        if len(notes) >= 12:
            raise errors.TooMany("labels", 12)
        notes[label] = words[2:]

    def ask(self, words):
        word, rest = words[0], words[1:]
        if word in ("state", "claimed"):
            if rest[0] not in self.notes:
                raise errors.UnknownLabel(rest[0])
            return self.state(rest[0]) if word == "state" else " ".join(self.notes[rest[0]])
        if word == "states":
            return ", ".join(f"{label} {state}" for label, state in sorted(self.states().items())) or "-"
        if word == "names":
            return " ".join(sorted(self.things)) or "-"
        shape = {"norm": "U", "worth": "PN", "reals": "P", "chain": "RC", "period": "R", "primes": "RC", "modulo": "RC"}
        if word not in shape:
            thing = self.thing(rest[0], "A")
            poly = thing if kind(thing) == "P" else thing.poly() if kind(thing) == "R" else thing[1][0]
            if word == "same":
                return "yes" if thing == self.thing(rest[1], kind(thing)) else "no"
            if word == "degree":
                return str(len(poly) - 1)
            return shown(poly) + ("; " + shown(thing[1][1]) if kind(thing) == "U" else "")
        given = self.given(shape[word], rest)
        if word == "chain":
            if not 1 <= given[1] <= 8:
                raise errors.InvalidMany(given[1])
            return "; ".join(shown(poly) for poly in chains.quotients(*given))
        if word == "period":
            return str(verdicts.round_degree(*given)).replace("None", "never")
        if word == "primes":
            return " ".join(str(prime) for prime in primes.kept_primes(*given)) or "-"
        ways = {"norm": lambda u: units.unit_number(u[0], u[1]), "worth": polys.worth, "modulo": rests.rest_degree,
                "reals": lambda p: signs.root_count(p, None, None)}
        return str(ways[word](*given))
