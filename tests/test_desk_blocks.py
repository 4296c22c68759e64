"""rootsround.desk: several commands at once, papers, desks made again, and blocks behind which all is as before."""

from rootsround import errors
from rootsround.desk import Desk, Trial, tried
from rootsround.ratios import Ratio
from rootsround.roots import Root
from tests.helpers import Checks, ratios
from tests.test_commands import DEEDS, OTHERS, VALUES
from tests.test_desk import FAR, START, all_of, made

LINES = ["poly x 5", "amount x 1 2", "claim e keeps r 5", "drop p", "forget a", "show x", "states", "undo", "redo"]
# commands of which each one fails on the desk with START and LINES
FAILING = [("poly q 1", errors.NameTaken), ("claim b round r", errors.LabelTaken), ("show zz", errors.UnknownName),
           ("state zz", errors.UnknownLabel), ("nothing", errors.InvalidCommand), (None, errors.InvalidCommand),
           ("amount q 25 1", errors.InvalidPlace), ("claim z keeps r 9", errors.InvalidClaim), ("root z w",
                                                                                                errors.WrongDegree),
           ("grown z r 0", errors.InvalidNumber), ("told z 1", errors.InvalidMany), ("unit z r q q",
                                                                                     errors.InvalidUnit),
           ("modulo r 3", errors.NotKept), ("modulo r 9", errors.InvalidPrime), ("redo", errors.NothingToRedo)]
PAPER, OTHER_PAPER = ([Ratio(1, 2), 0, 0, 1], [0, 1]), ((1, 0, 0, 2), (0, 2))


def fresh():
    """A desk with a paper, and with deeds that can be done again."""
    desk = made(*START, "poly y 1", "poly z 2")
    desk.attach("a", PAPER)
    desk.do_all("undo", "undo")
    return desk


class AllTest(Checks):
    def test_none_fails(self):
        desk, own = fresh(), fresh()
        found = desk.do_all(*LINES)
        self.assertIs(found.__class__, list)
        self.assertEqual(found, [own.do(line) for line in LINES])
        self.assertEqual(all_of(desk), all_of(own))
        self.assertEqual(Desk().do_all(), [])
        self.assertEqual(desk.do_all("states"), [own("states")])

    def test_one_fails_at_each_place(self):
        for line, error in FAILING:
            for at in range(len(LINES) + 1):
                if line == "redo" and at == len(LINES) - 1:
                    continue
                desk = fresh()
                before = all_of(desk)
                for function in (desk.do_all, desk.attempt):
                    with self.assertRaises(errors.CommandFailed) as caught:
                        function(*LINES[:at], "poly v 1", line, *LINES[at:])
                    self.assertEqual(vars(caught.exception), {"position": at + 1})
                    self.assertIs(caught.exception.__cause__.__class__, error)
                    self.assertEqual(all_of(desk), before)

    def test_values_that_are_no_commands(self):
        desk = fresh()
        for value in VALUES:
            with self.assertRaises(errors.CommandFailed) as caught:
                desk.do_all("undo", value)
            self.assertEqual(caught.exception.position, 1)
            self.assertIs(caught.exception.__cause__.value, value)
        self.assertEqual(all_of(desk), all_of(fresh()))

    def test_attempt(self):
        desk = fresh()
        before = all_of(desk)
        found = desk.attempt(*LINES)
        self.assertEqual(found, fresh().do_all(*LINES))
        self.assertIs(found.__class__, list)
        self.assertEqual(all_of(desk), before)
        self.assertEqual(desk.attempt("redo", "redo", "names"), ["poly y 1", "poly z 2", "p q r t u w y z"])
        self.assertEqual(desk.attempt("undo", "undo", "undo", "state a"), START[9:6:-1] + ["true"])
        self.assertEqual(desk.attempt(), [])
        self.assertEqual(all_of(desk), before)
        self.assertEqual(desk.do("redo"), "poly y 1")

    def test_too_many_deeds_at_once(self):
        desk = made("poly p 1,0,1")
        with self.assertRaises(errors.CommandFailed) as caught:
            desk.do_all(*["amount p 1 0"] * 300)
        self.assertEqual(caught.exception.position, 299)
        self.assertEqual(vars(caught.exception.__cause__), {"what": "deeds", "limit": 300})
        self.assertEqual(len(desk), 1)


class PapersTest(Checks):
    def refused(self, desk, label, paper):
        before = all_of(desk)
        self.assert_error(errors.InvalidPaper, {"value": paper}, desk.attach, label, paper)
        self.assert_error(errors.InvalidPaper, {"value": paper}, desk.attach, paper=paper, label=label)
        self.assertEqual(all_of(desk), before)

    def test_papers_of_claims_and_contraries(self):
        start = ["poly d 0,-2,0,0,1", "root r d", "poly m -1,0,0,1", "poly x 0,1", "poly f 1,1,0,0,1", "root g f",
                 "poly e 0,-2,9,-6,1", "root s e", "poly o -1,9,-6,1", "moved h r 2 1"]
        unit, never = ([-1, 0, 0, 1], [0, 1]), (3, 7, 5, 9)
        logs = ([], Ratio(1, 3), unit)
        for words, paper, wrong in [
                ("round r", unit, never), ("never r", unit, 1), ("round g", never, unit), ("never g", never, (3, 7, 5,
                                                                                           8)),
                ("log r x", logs, ("low", 1)), ("nolog r x", logs, ([], 1, unit)), ("log g x", ("never", never), logs),
                ("nolog g x", ("never", never), ("never", 7)),
                ("unit r m x", 1, 2), ("nounit r m x", Ratio(1), True), ("alike r h", (2, 1, 1), (2, 1, -1)),
                ("unlike r h", (2, 1, 1), (1, 0, 1)), ("sweeps s o 1", [-3, 1], [-3, 2]),
                ("leaves s o 1", (3, -1, 0), [])]:
            desk = made(*start, "claim k " + words)
            with self.subTest(words=words):
                self.assert_bool(desk.fits("k"), False)
                self.refused(desk, "k", wrong)
                self.assert_bool(desk.fits("k"), False)
                before = all_of(desk)[0][:-1]
                self.assertIsNone(desk.attach("k", paper))
                self.assert_bool(desk.fits("k"), True)
                self.assert_bool(desk.fits(label="k"), True)
                self.assertEqual(all_of(desk)[0][:-1], before)
                for value in [wrong, None, True, "x", [], (), {}, object(), [paper], (paper,)]:
                    self.refused(desk, "k", value)
                self.assert_bool(desk.fits("k"), True)

    def test_claims_without_papers(self):
        desk = made("poly d 0,-2,0,0,1", "root r d", "told t 2", "claim a keeps r 5", "claim b spoils r 3",
                    "claim c keeps r 3",
                    "claim d alike r t", "claim e unlike r t", "poly m 1", "claim f unit r m m", "claim g leaves r m 1")
        for label in desk.labels:
            for paper in (None, True, 1, 5, (1, 0, 1), [1], ([1], [1]), (3, 7, 5, 9), ("never", (3, 7, 5, 9)), "keeps"):
                self.refused(desk, label, paper)
            self.assert_bool(desk.fits(label), False)

    def test_what_fits_when_things_change(self):
        desk = made("poly p 0,1,0,0,1", "root r p", "poly q 1,1,0,0,1", "claim k round r")
        desk.attach("k", PAPER)
        desk.do("drop r")
        self.assert_bool(desk.fits("k"), False)
        self.refused(desk, "k", PAPER)
        desk.do("root r q")
        # now it would be a paper of neither, and what is a paper of the contrary is kept for that
        self.assert_bool(desk.fits("k"), False)
        self.refused(desk, "k", PAPER)
        desk.attach("k", (3, 7, 5, 9))
        self.assert_bool(desk.fits("k"), True)
        desk.do_all("drop r", "root r p")
        self.assert_bool(desk.fits("k"), False)
        desk.do_all("undo", "undo")
        self.assert_bool(desk.fits("k"), True)
        desk.do_all("undo", "undo")
        self.assertEqual(desk.do("state k"), "true")
        self.assert_bool(desk.fits("k"), False)
        desk.attach("k", OTHER_PAPER)
        self.assert_bool(desk.fits("k"), True)
        desk.do_all("redo", "redo")
        self.assert_bool(desk.fits("k"), False)

    def test_another_root_with_the_same_unit(self):
        desk = made("poly p 0,1,0,0,1", "root r p", "poly a 0,1", "poly b 1", "poly d -1,0,1",
                    "poly e -2,0,1", "root s d", "claim k unit s a b")
        desk.attach("k", 1)
        self.assert_bool(desk.fits("k"), True)
        desk.do_all("drop s", "root s e")
        self.assertEqual(desk.do("state k"), "true")
        self.assert_bool(desk.fits("k"), False)
        desk.do("undo")
        desk.do("undo")
        self.assert_bool(desk.fits("k"), True)

    def test_what_it_was_kept_for(self):
        # a paper of the contrary that becomes one of the claim does not fit: it was kept for the contrary
        desk = made("poly a 0,1", "poly b 1", "poly d -1,0,1", "root r d", "claim k nounit r a b", "claim l unit r a b")
        desk.attach("k", 1)
        desk.attach("l", 1)
        self.assertEqual([desk.fits("k"), desk.fits("l"), desk.do("states")], [True, True, "k false, l true"])
        desk.do_all("amount b 0 2")
        self.assertEqual([desk.fits("k"), desk.fits("l"), desk.do("states")], [False, False, "k true, l false"])
        desk.do_all("amount b 0 -1")
        self.assertEqual([desk.fits("k"), desk.fits("l"), desk.do("states")], [True, True, "k false, l true"])

    def test_labels_forgotten_and_noted_again(self):
        desk = made("poly p 0,1,0,0,1", "root r p", "root s p", "claim k round r")
        desk.attach("k", PAPER)
        desk.do("forget k")
        self.assert_error(errors.UnknownLabel, {"value": "k"}, desk.fits, "k")
        self.assert_error(errors.UnknownLabel, {"value": "k"}, desk.attach, "k", PAPER)
        desk.do("claim k round r")
        self.assert_bool(desk.fits("k"), True)
        for words in ("never r", "round s", "keeps r 5", "log r p"):
            desk.do_all("forget k", "claim k " + words)
            self.assert_bool(desk.fits("k"), False)
        desk.do_all("forget k", "claim k round r")
        self.assert_bool(desk.fits("k"), True)
        desk.do_all("forget k", "claim k round s")
        desk.attach("k", OTHER_PAPER)
        self.assert_bool(desk.fits("k"), True)
        desk.do_all("forget k", "claim k round r")
        self.assert_bool(desk.fits("k"), False)
        desk.do_all("undo", "undo")
        self.assert_bool(desk.fits("k"), True)
        while len(desk) > 3:
            desk.do("undo")
        self.assert_error(errors.UnknownLabel, {"value": "k"}, desk.fits, "k")
        desk.do("redo")
        self.assertEqual(desk.do("claimed k"), "round r")
        self.assert_bool(desk.fits("k"), False)

    def test_it_is_no_deed(self):
        desk = made(*START, "poly z 1")
        desk.do("undo")
        desk.attach("a", PAPER)
        self.assertEqual((len(desk), desk.lines(), desk.do("redo")), (10, START, "poly z 1"))
        desk.do_all(*["undo"] * 11, *["redo"] * 11)
        self.assert_bool(desk.fits("a"), True)

    def test_papers_are_copied(self):
        first, second = [Ratio(1, 2), 0, 0, 1], [0, 1]
        desk = made(*START)
        desk.attach("a", (first, second))
        first[0] = 7
        second.append(9)
        self.assert_bool(desk.fits("a"), True)
        inner = [-1, 0, 0, 1]
        desk = made("poly d 0,-2,0,0,1", "root r d", "poly x 0,1", "claim k log r x")
        taken = []
        desk.attach("k", (taken, Ratio(1, 3), (inner, [0, 1])))
        taken.append(1)
        inner.clear()
        self.assert_bool(desk.fits("k"), True)

    def test_limits(self):
        desk = made("poly f " + FAR.replace(" ", ","), "poly d 1,0,1", "root r d", "claim k round r")
        desk.attach("k", ([0, 1], [1]))
        desk.do_all("drop r", "root r f")
        self.assertEqual(desk.do("state k"), "gone")
        self.assert_bool(desk.fits("k"), False)
        self.refused(desk, "k", ([0, 1], [1]))
        # both chains modulo these primes are too long
        desk = made("poly f 1,1,0,0,0,1,0,0,1", "root r f", "claim k never r")
        self.refused(desk, "k", (9967, 5, 9973, 6))
        desk.do_all("forget k", "claim k round r")
        self.refused(desk, "k", (9967, 5, 9973, 6))

    def test_a_limit_that_stops_a_paper_later(self):
        desk = made("poly f 1,1,0,0,1", "root r f", "claim k never r", "poly g 1,1,0,0,0,1,0,0,1")
        desk.attach("k", (3, 7, 5, 9))
        desk.do_all("drop r", "root r g")
        self.assert_bool(desk.fits("k"), False)

    def test_wrong_labels(self):
        desk = made(*START)
        for value in ["x", "p", "", "A"] + VALUES + [("a",), ["a"]]:
            self.assert_error(errors.UnknownLabel, {"value": value}, desk.fits, value)
            self.assert_error(errors.UnknownLabel, {"value": value}, desk.attach, value, PAPER)
            self.assert_error(errors.UnknownLabel, {"value": value}, desk.attach, value, None)


class CopyTest(Checks):
    def test_copies_go_on_by_themselves(self):
        desk = fresh()
        before = all_of(desk)
        twin = desk.copy()
        self.assertIs(twin.__class__, Desk)
        self.assertEqual(all_of(twin), before)
        twin.attach("b", ([0, Ratio(1, 3)], Ratio(1, 6), PAPER))
        self.assert_bool(twin.fits("b"), True)
        self.assert_bool(desk.fits("b"), False)
        twin.do_all(*LINES)
        self.assertEqual(all_of(desk), before)
        desk.do("drop q")
        self.assert_bool("q" in twin, True)
        other = fresh()
        twin = other.copy()
        other.do_all(*["undo"] * 10)
        self.assertEqual(all_of(twin), before)
        self.assertEqual(twin.do("redo"), "poly y 1")

    def test_again(self):
        desk = fresh()
        desk.do_all(*LINES)
        twin = Desk.again(desk.lines())
        self.assertIs(twin.__class__, Desk)
        self.assertEqual(twin.lines(), desk.lines())
        self.assertEqual(all_of(twin)[0][:7], all_of(desk)[0][:7])
        self.assertRaises(errors.NothingToRedo, twin.do, "redo")
        self.assert_bool(twin.fits("b"), False)
        twin.do("drop q")
        self.assert_bool("q" in desk, True)
        self.assertEqual(Desk.again(lines=tuple(START)).lines(), START)
        self.assertEqual(all_of(Desk.again([])), all_of(Desk()))
        self.assertEqual(desk.again(START).lines(), START)

    def test_lines_of_deeds_taken_back_are_not_told(self):
        desk = made(*START)
        desk.do_all("undo", "undo", "poly n 1", "undo", "poly m 1", "show m")
        self.assertEqual(desk.lines(), START[:8] + ["poly m 1"])
        self.assertEqual(len(desk), 9)
        lines = desk.lines()
        lines.append("x")
        self.assertEqual(len(desk.lines()), 9)

    def test_wrong_lines(self):
        for value in [None, True, 0, "poly p 1", "", b"", {}, {"poly p 1"}, object(), Ratio(1), Desk, Desk(), range(2),
                      {"poly p 1": 1}]:
            self.assert_error(errors.InvalidLines, {"position": None}, Desk.again, value)
        for at in range(3):
            for value in VALUES + OTHERS + ["", "x", "poly p", "poly p 1 ", "poly P 1"]:
                lines = START[:at] + [value] + START[at:]
                self.assert_error(errors.InvalidLines, {"position": at}, Desk.again, lines)
                self.assert_error(errors.InvalidLines, {"position": at}, Desk.again, tuple(lines + [None, "undo"]))
        # all lines are looked at ahead of the first deed
        self.assert_error(errors.InvalidLines, {"position": 2}, Desk.again, ["poly p 1", "poly p 1", "undo"])
        for lines, at, error in [(["poly p 1", "poly p 1"], 1, errors.NameTaken), (["root r p"], 0, errors.UnknownName),
                                 (START + ["amount p 25 1"], 10, errors.InvalidPlace),
                                 (["poly p 1"] + ["amount p 1 0"] * 300, 300, errors.TooMany)]:
            with self.assertRaises(errors.CommandFailed) as caught:
                Desk.again(lines)
            self.assertEqual(vars(caught.exception), {"position": at})
            self.assertIs(caught.exception.__cause__.__class__, error)
        self.assertGreater(len(DEEDS), 40)


class TrialTest(Checks):
    def test_a_block(self):
        desk = fresh()
        before = all_of(desk)
        with Trial(desk) as held:
            self.assertIs(held, desk)
            held.attach("b", ([0, Ratio(1, 3)], Ratio(1, 6), PAPER))
            self.assert_bool(desk.fits("b"), True)
            held.do_all(*LINES)
            self.assertEqual(desk["x"], ratios([5, 2]))
            self.assertNotEqual(all_of(desk), before)
        self.assertEqual(all_of(desk), before)
        self.assert_bool(desk.fits("b"), False)
        self.assertEqual(desk.do("redo"), "poly y 1")

    def test_an_error_leaves_the_block(self):
        for error in (ValueError, errors.NoughtPoly, KeyError, ZeroDivisionError, KeyboardInterrupt, AssertionError):
            desk = fresh()
            before = all_of(desk)
            with self.assertRaises(error):
                with Trial(desk=desk) as held:
                    held.do("drop p")
                    raise error()
            self.assertEqual(all_of(desk), before)
        with self.assertRaises(errors.UnknownName):
            with Trial(desk):
                desk.do_all("undo", "undo")
                desk.do("show zz")
        self.assertEqual(all_of(desk), before)

    def test_as_it_was_ahead_of_the_block(self):
        desk = fresh()
        trial = Trial(desk)
        desk.do("drop p")
        before = all_of(desk)
        for _ in range(2):
            with trial as held:
                held.do_all("undo", "poly v 1")
            self.assertEqual(all_of(desk), before)
        desk.do("drop q")
        between = all_of(desk)
        with trial:
            desk.do("drop r")
            with Trial(desk):
                desk.do("drop t")
            self.assertEqual((desk.names, "t" in desk), (["t", "u", "w"], True))
        self.assertEqual(all_of(desk), between)

    def test_tried(self):
        desk = fresh()
        before = all_of(desk)
        found = tried(desk, lambda held: [held is desk, held.do_all(*LINES), held.names])
        self.assertEqual(found, [True, fresh().do_all(*LINES), ["q", "r", "t", "u", "w", "x"]])
        self.assertEqual(all_of(desk), before)
        self.assertEqual(tried(action=lambda held: held("drop p"), desk=desk), "b gone")
        self.assertEqual(tried(desk, lambda held: held["r"]), Root([0, 1, 0, 0, 1]))
        self.assertIsNone(tried(desk, lambda held: held.attach("a", OTHER_PAPER)))
        with self.assertRaises(errors.UnknownName):
            tried(desk, lambda held: [held.do("drop p"), held["p"]])
        self.assertEqual(all_of(desk), before)
