"""rootsround.claims: claims, contraries, papers."""

from rootsround.claims import contrary, is_claim, is_paper_of, is_true, paper_of, words
from rootsround.errors import InvalidClaim, TooMany
from rootsround.integrals import is_integral, is_why
from rootsround.moves import is_alike, moved_root, scaled_root
from rootsround.ratios import Ratio
from rootsround.roots import Root
from rootsround.units import contrary as contrary_unit
from rootsround.units import is_unit
from rootsround.verdicts import is_never_paper
from tests.helpers import NOT_NUMBERS, NOT_POLYS, NOT_ROOTS, Checks, Sub, fracs, frac_times, ratio, ratios
from tests.own import FAR_ROUND, NEVER, numbers_of, own_least, own_norm, own_sum, root_of, round_roots
from tests.real import NOT_REAL, with_powers

WORDS = [("round", "never"), ("log", "nolog"), ("unit", "nounit"), ("alike", "unlike"), ("sweeps", "leaves"),
         ("keeps", "spoils")]
SWING, HOOK, NEVER_ONE = Root([0, -2, 0, 0, 1]), Root([0, 1, 0, 0, 1]), Root([1, 1, 0, 0, 1])
SWEPT = Root([0, -2, 9, -6, 1])
TOO_LONG = Root([1, -1, -2, -4, 0, 4, -3, -2, 1])
# not round, as its chain over fractions tells, but the chain at the second prime is too long for a paper
NO_PAPER = Root([-3, -2, -4, -3, 2, 3, 2, -2, 1])
STEPS, TOO_FEW = {"what": "steps", "limit": 600}, {"what": "primes", "limit": 24}
# for each line claims of its first word: true or false, and papers of this claim or its contrary
ROWS = [
    (("round", SWING), True, [([-1, 0, 0, 1], [0, 1]), ((2, 0, 0, Ratio(-2)), (0, 2))],
     [([-1, 0, 0, 1], [0, 2]), [[-1, 0, 0, 1], [0, 1]], 1, (3, 7, 5, 9), ([1], [])]),
    (("round", NEVER_ONE), False, [(3, 7, 5, 9), (7, 4, 3, 7), (13, 6, 11, 15)],
     [(3, 7, 5, 8), (3, 7, 3, 7), (3, 7), [3, 7, 5, 9], (3, 7, 9, 9), (3, 7, 7, 7), ([1], [1])]),
    (("log", SWING, [-1, 3, 0, 2]), True, [([1], 1, ([-1, 0, 0, 1], [0, 1])), ((1, 0), Ratio(-1), ([1, 0, 0, -1], [0,
     1]))],
     [([1], 2, ([-1, 0, 0, 1], [0, 1])), ([1], 0, None), ([1], 1, None), ("low", 0), ("uneven", 0), 1]),
    (("log", SWING, (-1, 0, 0, 2, 0)), True, [([1], 0, None), ([Ratio(1), 0], Ratio(0), None)],
     [([1], 0, ([-1, 0, 0, 1], [0, 1])), ([], 0, None), ("low", 0), ("never", (3, 7, 5, 9))]),
    (("log", SWING, [0, 0, 1]), False, [("degree", 2)], [("degree", 1), ("low", 2), ["degree", 2], ("degree", Ratio(2)),
                                                        ("uneven", 0), ([], 0, None)]),
    (("log", SWING, [1]), False, [("low", 0)], [("low", 1), ("degree", 0), ("uneven", 0), ("low", False)]),
    (("log", SWING, [5, 3, 0, 2]), False, [("uneven", 0)], [("uneven", 1), ("low", 1), ("never", (3, 7, 5, 9)),
     ("uneven", -1)]),
    (("log", NEVER_ONE, [0, 1]), False, [("never", (3, 7, 5, 9)), ("never", (5, 9, 3, 7))],
     [("never", (3, 7, 5, 8)), ("low", 1), ("degree", 1), ("uneven", 0), ("never", None)]),
    (("log", NEVER_ONE, [1]), False, [("low", 0), ("never", (3, 7, 5, 9))], [("low", 1)]),
    (("log", Root([-1, 0, 1]), [7, 2, 3]), True, [([2, Ratio(3, 2)], Ratio(17, 2), ([0, 1], [1]))], []),
    (("unit", SWING, [-1, 0, 0, 1], [0, 1]), True, [1, Ratio(1), Sub(1), Ratio(3, 3)],
     [2, Ratio(1, 2), -1, True, [1], (1,), "1", ([-1, 0, 0, 1], [0, 1])]),
    (("unit", Root([1, 0, 1]), (0, 3, 0), [3]), True, [-9, Ratio(-9)], [9, 1, None]),
    (("unit", SWING, [-1, 0, 0, 1], [0, 2]), False, [], [1, 0, None, 2]),
    (("unit", SWING, [1], []), False, [], [1, Ratio(1), True]),
    (("unit", SWING, [], []), False, [], [0, Ratio(0)]),
    (("unit", SWING, [], [1]), False, [], [0, 1]),
    (("alike", HOOK, scaled_root(moved_root(HOOK, 2, 1), 3)), True, [(2, 1, 3), (Ratio(2), Ratio(1), Ratio(3))],
     [(2, 1, -3), (-2, 1, 3), [2, 1, 3], (2, 1), None]),
    (("alike", HOOK, HOOK), True, [(1, 0, 1)], [(1, 0, -1), (1, 1, 1), (-1, 0, 1)]),
    (("alike", HOOK, SWING), False, [], [(1, 0, 1), None, (2, 1, 3)]),
    (("alike", HOOK, Root([1, 0, 1])), False, [], [(1, 0, 1)]),
    (("sweeps", SWEPT, [-1, 9, -6, 1], 1), True, [[-3, 1], (3, Ratio(-1), 0), [Ratio(-3), Ratio(1)]],
     [[-3, 2], [3, 1], [], [0], 1, ([-3, 1],), "q", [True], None]),
    (("sweeps", SWEPT, (1, -9, 6, -1, 0), Ratio(1)), True, [[-3, 1], [3, -1]], [[1], [-3]]),
    (("sweeps", SWEPT, [-1, 9, -6, 1], 2), False, [], [[-3, 1], []]),
    (("sweeps", SWEPT, [-1, 9, -6, 1], 0), False, [], [[-3, 1], []]),
    (("sweeps", SWEPT, [3], 9), False, [], [[], [0], [1], [-3, 1]]),
    (("sweeps", SWEPT, [], 1), False, [], [[], [1]]),
    # a unit, but the root is not all real; and a number below 0
    (("sweeps", SWING, [-1, 0, 0, 1], 1), False, [], [[0, 1], [0, -1]]),
    (("sweeps", Root([1, 0, 1]), [0, 1], -1), False, [], [[1], [-1]]),
    (("keeps", HOOK, 5), True, [], [5, None, True, 1]),
    (("keeps", HOOK, 3), False, [], [3, None, False, 0])]
NOT_CLAIMS = [
    None, True, 0, "round", "", b"round", [], ["round", SWING], (), ("round",), (SWING,), ("Round", SWING), ("rounds",
                                                                                                             SWING),
    (("round", "never"), SWING), ("round", SWING, SWING), ("round", SWING, []), ("never",), ("never", SWING, 1),
    (None, SWING),
    (1, SWING), ("log", SWING), ("log", [1], SWING), ("log", SWING, [0] * 31 + [1]), ("log", SWING, [1], [1]),
    ("nolog", SWING, 1), ("unit", SWING, [1]), ("unit", SWING, ([1], [1])), ("unit", SWING, [1], [0] * 31 + [1]),
    ("nounit", SWING, [1] * 32, [1]), ("nounit", SWING), ("alike", SWING), ("alike", SWING, [1, 0, 1]),
    ("unlike", SWING, SWING, SWING), ("sweeps", SWING, [1]), ("sweeps", SWING, [0] * 31 + [1], 1), ("sweeps", SWING,
                                                                                                    [1], "1"),
    ("leaves", SWING, [1], True), ("leaves", SWING, 1, [1]), ("keeps", SWING), ("keeps", SWING, 9), ("keeps", SWING, 2),
    ("spoils", SWING, Ratio(3)), ("spoils", SWING, True), ("keeps", SWING, 10007), ("spoils", 3, SWING), {},
    {"round": SWING},
    object(), SWING, tuple, ([1], SWING), ({}, SWING)]


def other_word(claim):
    """The contrary, told by the table."""
    for first, second in WORDS:
        if claim[0] in (first, second):
            return (second if claim[0] == first else first,) + claim[1:]
    raise AssertionError(claim)


def true_and_false():
    """Tuples (claim, whether it is true, papers of it, papers of its contrary, no papers) of all twelve words."""
    for claim, held, papers, wrong in ROWS:
        yield claim, held, papers if held else [], papers if not held else [], wrong
        yield other_word(claim), not held, papers if not held else [], papers if held else [], wrong


class WordsTest(Checks):
    def test_words(self):
        self.assertEqual(self.assert_pure(words), WORDS)
        self.assertIs(words().__class__, list)
        self.assertEqual({one.__class__ for one in words()}, {tuple})


class ClaimTest(Checks):
    def test_claims(self):
        met = set()
        for claim, _, _, _, _ in true_and_false():
            met.add(claim[0])
            self.assert_bool(is_claim(claim), True)
            self.assert_bool(is_claim(value=claim), True)
        self.assertEqual(met, {word for pair in WORDS for word in pair})

    def test_other_values(self):
        for value in NOT_CLAIMS:
            with self.subTest(value=value):
                self.assert_bool(is_claim(value), False)

    def test_parts_of_other_kinds(self):
        roots, polys = NOT_ROOTS, NOT_POLYS + [[0] * 31 + [1], [1] * 61, (0,) * 60 + (1,)]
        primes = NOT_NUMBERS + [0, 1, 2, 4, 9, -3, 10007, Ratio(3)]
        for claim, _, _, _, _ in true_and_false():
            for at in range(1, len(claim)):
                kinds = {SWING.__class__: roots, list: polys, tuple: polys}
                wrong = kinds.get(claim[at].__class__, primes if claim[0] in ("keeps", "spoils") else NOT_NUMBERS)
                for value in wrong:
                    self.assert_bool(is_claim(claim[:at] + (value,) + claim[at + 1:]), False)

    def test_degrees_to_30(self):
        for many, wanted in [(30, True), (31, False)]:
            poly = [0] * many + [1, 0, 0]
            for claim in [("log", SWING, poly), ("nolog", SWING, tuple(poly)), ("unit", SWING, poly, [1]),
                          ("nounit", SWING, [1], poly), ("sweeps", SWING, poly, 1), ("leaves", SWING, poly, -1)]:
                self.assert_bool(is_claim(claim), wanted)
        self.assert_bool(is_claim(("log", SWING, [0] * 61)), True)

    def test_invalid_claims(self):
        for function in (is_true, contrary, paper_of):
            self.assert_refuses(function, {"claim": ("round", SWING)}, "claim", InvalidClaim, NOT_CLAIMS)
        good = {"claim": ("round", SWING), "value": None}
        self.assert_refuses(is_paper_of, good, "claim", InvalidClaim, NOT_CLAIMS)


class TrueTest(Checks):
    def test_true_and_false(self):
        for claim, held, _, _, _ in true_and_false():
            with self.subTest(claim=claim):
                self.assert_bool(self.assert_pure(is_true, claim), held)
                self.assert_bool(is_true(claim=claim), held)

    def test_round_and_never(self):
        for root, many, _, _ in round_roots()[::4]:
            p, q, _, _ = own_least(root, many)
            self.assert_bool(is_true(("round", root)), True)
            self.assert_bool(is_true(("never", root)), False)
            self.assert_bool(is_paper_of(("round", root), (ratios(p), ratios(q))), True)
            self.assert_bool(is_paper_of(("never", root), (ratios(p), ratios(q))), False)
            self.assertEqual(paper_of(("round", root)), (ratios(p), ratios(q)))
            self.assertIsNone(paper_of(("never", root)))
            number = ratio(own_norm(root, p, q)[0])
            self.assertEqual(paper_of(("unit", root, tuple(ratios(p)), ratios(q))), number)
        for text in NEVER:
            root = root_of(text)
            self.assert_bool(is_true(("round", root)), False)
            self.assert_bool(is_true(("never", root)), True)
            self.assert_bool(is_never_paper(root, paper_of(("never", root))), True)
            self.assertIsNone(paper_of(("round", root)))

    def test_sweeps(self):
        for root, unit, number, _, _ in with_powers(8, 2):
            claim = ("sweeps", root, unit[0], ratio(number))
            self.assert_bool(is_true(claim), True)
            found = paper_of(claim)
            self.assertEqual(frac_times(fracs(found), fracs(found)), frac_times(fracs(unit[1]), fracs(unit[1])))
            for value in (found, tuple(unit[1]), [-one for one in unit[1]] + [0]):
                self.assert_bool(is_paper_of(claim, value), True)
                self.assert_bool(is_paper_of(("leaves",) + claim[1:], value), False)
                self.assert_bool(is_paper_of(claim[:3] + (ratio(number + 1),), value), False)
        for text in NOT_REAL:
            self.assert_bool(is_true(("leaves", root_of(text), [0, 1], 1)), True)
            self.assertIsNone(paper_of(("sweeps", root_of(text), [0, 1], 1)))

    def test_limits(self):
        for row in FAR_ROUND[:3]:
            root = root_of(row[0])
            left = ratios(own_sum(root, [1]))
            self.check_limit(root, TOO_FEW, left)
        self.check_limit(TOO_LONG, STEPS, ratios(own_sum(TOO_LONG, [2, 1])))

    def check_limit(self, root, told, nothing_left):
        for word in ("round", "never"):
            self.assert_error(TooMany, told, is_true, (word, root))
            self.assert_error(TooMany, told, paper_of, (word, root))
        for word in ("log", "nolog"):
            claim = (word, root, [0] * (root.half - 1) + [1])
            self.assert_error(TooMany, told, is_true, claim)
            self.assert_error(TooMany, told, paper_of, claim)
            # where nothing has to be known of the chain there is no limit
            self.assert_bool(is_true((word, root, nothing_left)), word == "log")
            self.assert_bool(is_true((word, root, [1])), word == "nolog")
            self.assert_bool(is_true((word, root, [0] * root.half + [1])), word == "nolog")

    def test_limits_of_papers(self):
        self.assert_bool(is_true(("round", NO_PAPER)), False)
        self.assert_bool(is_true(("never", NO_PAPER)), True)
        self.assertIsNone(paper_of(("round", NO_PAPER)))
        self.assert_error(TooMany, STEPS, paper_of, ("never", NO_PAPER))
        poly = [0, 0, 0, 1]
        self.assert_bool(is_true(("nolog", NO_PAPER, poly)), True)
        self.assert_bool(is_true(("log", NO_PAPER, poly)), False)
        self.assertIsNone(paper_of(("log", NO_PAPER, poly)))
        self.assert_error(TooMany, STEPS, paper_of, ("nolog", NO_PAPER, poly))
        for value in [(9967, 5, 9973, 6), (9973, 1, 9967, 2)]:
            root = Root([1, 1, 0, 0, 0, 1, 0, 0, 1])
            self.assert_error(TooMany, STEPS, is_paper_of, ("never", root), value)
            self.assert_error(TooMany, STEPS, is_paper_of, ("nolog", root, poly), ("never", value))
            self.assert_bool(is_paper_of(("round", root), value), False)
            self.assert_bool(is_paper_of(("log", root, poly), ("never", value)), False)
        self.assert_error(TooMany, STEPS, is_paper_of, ("nolog", TOO_LONG, poly), ("uneven", 0))


class ContraryTest(Checks):
    def test_contraries(self):
        for claim, _, _, _, _ in true_and_false():
            found = self.assert_pure(contrary, claim)
            self.assertIs(found.__class__, tuple)
            self.assertEqual(found, other_word(claim))
            self.assertEqual(contrary(claim=found), claim)
            for part, own in zip(found[1:], claim[1:]):
                self.assertIs(part.__class__, own.__class__)
                if isinstance(own, (list, tuple)):
                    self.assertIsNot(part, own)
                    self.assertEqual([one.__class__ for one in part], [one.__class__ for one in own])

    def test_parts_as_they_were_passed(self):
        claim = ("log", SWING, (0, Ratio(3), Sub(2), 0))
        found = contrary(claim)
        self.assertEqual(found, ("nolog", SWING, (0, Ratio(3), Sub(2), 0)))
        self.assertEqual([one.__class__ for one in found[2]], [int, Ratio, Sub, int])
        claim = ("leaves", SWING, [1, 0, 0], 4)
        found = contrary(claim)
        found[2].append(7)
        self.assertEqual(claim, ("leaves", SWING, [1, 0, 0], 4))


class PaperTest(Checks):
    def test_papers(self):
        for claim, held, own, others, wrong in true_and_false():
            with self.subTest(claim=claim):
                for value in own:
                    self.assert_bool(self.assert_pure(is_paper_of, claim, value), True)
                    self.assert_bool(is_paper_of(value=value, claim=claim), True)
                for value in others + wrong:
                    self.assert_bool(is_paper_of(claim, value), False)
                found = self.assert_pure(paper_of, claim)
                self.assertEqual(found is not None, held and own != [])
                self.assertEqual(paper_of(claim=claim), found)
                if found is not None:
                    self.assert_bool(is_paper_of(claim, found), True)
                    self.assert_bool(is_paper_of(other_word(claim), found), False)

    def test_values_of_all_kinds(self):
        for claim, _, _, _, _ in true_and_false():
            for value in [None, True, False, "x", "", b"", [], (), {}, {1}, object(), SWING, Root, [None], (None,
                          None), ((), ()),
                          (None,) * 3, (None,) * 4, ("never", None), ("uneven", None), ([], 0, ()), range(3)]:
                self.assert_bool(is_paper_of(claim, value), False)

    def test_papers_of_the_kinds_that_are_told(self):
        claims = [("log", SWING, [-1, 3, 0, 2]), ("nolog", SWING, [0, 0, 1]), ("nolog", NEVER_ONE, [0, 1]),
                  ("alike", HOOK, moved_root(HOOK, -3, Ratio(1, 2)))]
        self.assertTrue(is_integral(SWING, [-1, 3, 0, 2], paper_of(claims[0])))
        self.assertTrue(is_why(SWING, [0, 0, 1], paper_of(claims[1])))
        word, paper = paper_of(claims[2])
        self.assertEqual((word, is_never_paper(NEVER_ONE, paper)), ("never", True))
        self.assertTrue(is_alike(HOOK, claims[3][2], paper_of(claims[3])))
        found = paper_of(("unit", SWING, [-1, 0, 0, 1], [0, 1]))
        self.assertEqual((found, found.__class__), (Ratio(1), Ratio))
        self.assertTrue(is_unit(SWING, paper_of(("round", SWING))))
        self.assertEqual(contrary_unit(SWING, paper_of(("round", SWING)))[1], numbers_of("0 -1"))

    def test_one_number_otherwise(self):
        for claim, _, papers, _, _ in true_and_false():
            for paper in papers:
                for changed in changes_of(paper):
                    if claim[0] == "round" and is_unit(claim[1], changed):
                        continue
                    if claim[0] in ("log", "never", "nolog", "alike", "sweeps") and is_paper_of(claim, changed):
                        self.check_own(claim, changed)
                        continue
                    self.assert_bool(is_paper_of(claim, changed), False)

    def check_own(self, claim, value):
        """A changed paper that is one all the same: told by the judge of its kind, or the same but for noughts."""
        if claim[0] == "sweeps":
            self.assertIn(fracs(value), [[-3, 1], [3, -1]])
        elif claim[0] == "log":
            self.assertTrue(is_integral(claim[1], claim[2], value))
        elif claim[0] == "never":
            self.assertTrue(is_never_paper(claim[1], value))
        elif claim[0] == "nolog":
            self.assertTrue(is_why(claim[1], claim[2], value))
        else:
            self.assertTrue(is_alike(claim[1], claim[2], value))


def changes_of(paper):
    """The paper with one number another one, a part left out, and of another kind."""
    if isinstance(paper, (int, Ratio)):
        yield paper + 1
        yield -paper
        yield str(paper)
        yield [paper]
        return
    if not isinstance(paper, (list, tuple)):
        return
    for at, part in enumerate(paper):
        if isinstance(part, int) and isinstance(paper, tuple):
            yield paper[:at] + (part + 1,) + paper[at + 1:]
            yield paper[:at] + (str(part),) + paper[at + 1:]
        if isinstance(part, (list, tuple)) and part:
            yield paper[:at] + paper.__class__([part[:-1]]) + paper[at + 1:]
            if not isinstance(part[0], (list, tuple, str)):
                changed = part.__class__([part[0] + 1]) + part[1:]
                yield paper[:at] + paper.__class__([changed]) + paper[at + 1:]
    yield paper[:-1]
    yield paper + paper[-1:]
    yield {0: paper}
    if isinstance(paper, tuple):
        yield list(paper)
