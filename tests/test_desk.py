"""rootsround.desk: things, claims, states, deeds, and the answers of all commands."""

from rootsround import errors
from rootsround.claims import is_true
from rootsround.desk import Desk
from rootsround.ratios import Ratio
from rootsround.roots import Root
from tests.helpers import Checks, ratios, source_of, spoil
from tests.own_desk import MADE, OwnDesk, kind
from tests.test_commands import DEEDS, NOT_NAMES, OTHERS, VALUES

FAR = "1 0 4 -2 4 0 1"
# a desk with a thing of each kind and claims
START = ["poly p 0,1,0,0,1", "poly q 0,1", "poly w -", "root r p", "told t 3", "least u r", "claim a round r",
         "claim b log r p", "claim c alike r t", "claim d keeps r 3"]


def made(*lines):
    desk = Desk()
    desk.do_all(*lines)
    return desk


def all_of(desk):
    """What a desk tells about itself."""
    kept = desk.copy()
    told = [desk.names, desk.labels, len(desk), desk.lines(), desk.do("states"), desk.do("names"),
            [desk[name] for name in desk.names], [desk.claim_of(label) for label in desk.labels],
            [desk.do("claimed " + label) for label in desk.labels], [desk.fits(label) for label in desk.labels]]
    back = []
    try:
        while True:
            back.append((kept.do("redo"), kept.do("states"), [kept[name] for name in kept.names]))
    except errors.NothingToRedo:
        return told, back


class DeskChecks(Checks):
    def assert_fails(self, desk, line, error, **told):
        """The command raises just this error, by all ways, and changes nothing."""
        before = all_of(desk)
        for function in (desk.do, desk):
            with self.subTest(line=line):
                with self.assertRaises(error) as caught:
                    function(line)
                self.assertIs(caught.exception.__class__, error)
                self.assertEqual(vars(caught.exception), told)
                self.assertEqual({name: value.__class__ for name, value in vars(caught.exception).items()},
                                 {name: value.__class__ for name, value in told.items()})
        with self.assertRaises(errors.CommandFailed) as caught:
            desk.do_all("names", line)
        self.assertEqual(caught.exception.position, 1)
        self.assertIs(caught.exception.__cause__.__class__, error)
        self.assertEqual(vars(caught.exception.__cause__), told)
        self.assertEqual(all_of(desk), before)

    def assert_says(self, desk, *pairs):
        """Each command has its answer."""
        for line, answer in pairs:
            self.assertEqual((line, desk.do(line)), (line, answer))


class ThingsTest(DeskChecks):
    def test_a_new_desk(self):
        desk = Desk()
        self.assertEqual([desk.names, desk.labels, len(desk), desk.lines()], [[], [], 0, []])
        self.assert_says(desk, ("names", "-"), ("states", "-"))
        self.assert_fails(desk, "undo", errors.NothingToUndo)
        self.assert_fails(desk, "redo", errors.NothingToRedo)

    def test_what_is_kept(self):
        desk = made(*START)
        self.assertEqual(desk.names, ["p", "q", "r", "t", "u", "w"])
        self.assertEqual(desk.labels, ["a", "b", "c", "d"])
        self.assertEqual((len(desk), desk.lines()), (10, START))
        self.assertEqual(desk["p"], ratios([0, 1, 0, 0, 1]))
        self.assertEqual(desk["w"], [])
        self.assertEqual(desk["r"], Root([0, 1, 0, 0, 1]))
        root, unit = desk["u"]
        self.assertEqual((root, unit), (Root([0, 1, 0, 0, 1]), ([Ratio(1, 2), Ratio(0), Ratio(0), Ratio(1)],
                         ratios([0, 1]))))
        self.assertEqual((desk["u"].__class__, unit.__class__, unit[0].__class__), (tuple, tuple, list))
        for name in desk.names:
            self.assert_bool(name in desk, True)

    def test_names_of_nothing(self):
        desk = made(*START)
        for value in ["a", "x", "P", "pp"] + NOT_NAMES + VALUES + [("p",), ["p"], {"p": 1}, b"p"]:
            self.assert_bool(value in desk, False)
            self.assert_error(errors.UnknownName, {"value": value}, lambda: desk[value])

    def test_what_is_told_is_new(self):
        desk = made(*START)
        before = all_of(desk)
        for name in desk.names:
            spoil(desk[name])
        spoil(desk["u"][1])
        for label in desk.labels:
            spoil(desk.claim_of(label))
        for told in (desk.names, desk.labels, desk.lines(), desk.do_all("names")):
            spoil(told)
        for line, error in [("claim x keeps r 9", errors.InvalidClaim), ("unit x r p q", errors.InvalidUnit)]:
            with self.assertRaises(error) as caught:
                desk.do(line)
            spoil(caught.exception.value)
        self.assertEqual(all_of(desk), before)

    def test_a_desk_is_not_iterated_over(self):
        desk = made(*START)
        for function in (iter, list, tuple):
            with self.assertRaises(TypeError):
                function(desk)

    def test_things_do_not_hang_on_other_names(self):
        desk = made(*START)
        desk.do_all("drop p", "amount q 0 7", "drop t")
        self.assertEqual(desk["r"], Root([0, 1, 0, 0, 1]))
        desk.do("drop r")
        self.assertEqual(desk["u"][0], Root([0, 1, 0, 0, 1]))
        self.assert_says(desk, ("norm u", "1/4"), ("names", "q u w"))

    def test_values_that_are_no_commands(self):
        desk = made(*START)
        for value in VALUES + ["", " ", "x", "show", "show p p", "poly x 1,", "undo ", "claim e round r p"]:
            for function in (desk, desk.do):
                self.assert_error(errors.InvalidCommand, {"value": value}, function, value)
            self.assert_error(errors.InvalidCommand, {"value": value}, desk.do, command=value)


class MakingTest(DeskChecks):
    def check(self, start, line, name, shown):
        desk = made(*start)
        self.assert_says(desk, (line, "-"), ("show " + name, shown))
        self.assertEqual(desk.lines(), start + [line])
        self.assert_fails(desk, line, errors.NameTaken, name=name)

    def test_polynomials(self):
        start = ["poly p 1,2,1", "poly q 1,1", "poly n -"]
        for line, shown in [
                ("poly x 1,-3/2,0", "1,-3/2"), ("poly x -", "-"), ("poly x 0", "-"), ("sum x p q", "2,3,1"),
                ("less x p q", "0,1,1"), ("less x p p", "-"), ("less x q p", "0,-1,-1"), ("times x p q", "1,3,3,1"),
                ("times x p n", "-"), ("into x p q", "4,4,1"), ("into x q p", "2,2,1"), ("quotient x p q", "1,1"),
                ("rest x p q", "-"), ("quotient x q p", "-"), ("rest x q p", "1,1"), ("common x p q", "1,1"),
                ("common x n n", "-"), ("derived x p", "2,2"), ("derived x n", "-"), ("odd x p", "1"),
                ("scaled x p -1/2", "-1/2,-1,-1/2"), ("scaled x p 0", "-")]:
            self.check(start, line, "x", shown)

    def test_roots(self):
        start = ["poly p -1,0,1", "poly q 0,0,1", "root r p", "poly m -1,0,0,1", "poly l 0,1"]
        for line, shown in [
                ("root x p", "-1,0,1"), ("told x 2", "1,0,0,0,1"), ("told x 5", "-1,-2,5,4,4"), ("moved x r 2 -1",
                                                                                                 "0,-4,4"),
                ("grown x r -1/2", "-1/4,0,1/4"), ("made x m 1", "0,-2,0,0,1"), ("made x l -1", "1,0,1"),
                ("line x l l", "0,-2,0,0,1"), ("put x r q", "-1,0,0,0,1")]:
            self.check(start, line, "x", shown)
        for line, shown in [("inside x r", "-1,0,1"), ("nearest x r", "0,1"), ("left x r m", "-1"), ("left x r q",
                            "1/2")]:
            self.check(start, line, "x", shown)

    def test_units(self):
        start = ["poly p 1/2,0,0,1", "poly q 0,1", "poly d 0,1,0,0,1", "root r d", "unit u r p q"]
        for line, shown in [
                ("unit x r p q", "1/2,0,0,1; 0,1"), ("least x r", "1/2,0,0,1; 0,1"), ("contrary x u",
                                                                                      "1/2,0,0,1; 0,-1"),
                ("power x u 1", "1/2,0,0,1; 0,1"), ("power x u 2", "1/4,0,0,2,0,0,2; 0,1,0,0,2"), ("first x u",
                                                                                                   "1/2,0,0,1"),
                ("second x u", "0,1"), ("logof x u", "0,3")]:
            self.check(start, line, "x", shown)

    def test_amounts(self):
        desk = made("poly p 1,2,3", "poly n -")
        self.assert_says(desk, ("amount p 0 -1/2", "-"), ("show p", "-1/2,2,3"), ("amount p 2 0", "-"), ("show p",
                         "-1/2,2"),
                         ("amount p 5 7", "-"), ("show p", "-1/2,2,0,0,0,7"), ("amount p 5 0", "-"), ("show p",
                                                                                                      "-1/2,2"),
                         ("amount n 24 1", "-"), ("degree n", "24"), ("amount n 24 0", "-"), ("show n", "-"),
                         ("amount n 3 0", "-"), ("show n", "-"), ("amount p 0 -1/2", "-"), ("amount p 1 0", "-"),
                         ("show p", "-1/2"), ("amount p 0 0", "-"), ("show p", "-"))
        self.assertEqual(len(desk), 12)
        for count in (25, 26, 60, 9999):
            self.assert_fails(desk, f"amount p {count} 1", errors.InvalidPlace, value=count)
        self.assert_fails(desk, "amount x 25 1", errors.UnknownName, value="x")
        desk.do_all("poly l " + ",".join(["1"] * 25), "times s l l", "amount s 24 0")
        self.assert_says(desk, ("degree s", "48"))

    def test_errors_of_what_makes_things(self):
        start = ["poly p 1,2,1", "poly q 0,1", "poly n -", "poly one 1", "poly d 0,1,0,0,1", "poly s 1,0,2",
                 "poly f 1,1,0,0,1",
                 "root r d", "root g f", "least u r", "poly b " + ",".join(["1"] * 25), "times c b b"]
        desk = made(*start)
        for line, error, told in [
                ("times x c b", errors.TooMany, {"what": "degree", "limit": 60}),
                ("into x b d", errors.TooMany, {"what": "degree", "limit": 60}),
                ("quotient x p n", errors.NoughtPoly, {}), ("rest x p n", errors.NoughtPoly, {}),
                ("odd x n", errors.NoughtPoly, {}), ("root x p", errors.HasSquare, {}), ("root x q",
                                                                                         errors.WrongDegree, {}),
                ("root x s", errors.NoSquareHead, {}), ("root x n", errors.WrongDegree, {}),
                ("told x 1", errors.InvalidMany, {"value": 1}), ("told x 9999", errors.InvalidMany, {"value": 9999}),
                ("moved x r 0 1", errors.InvalidNumber, {"value": Ratio(0)}),
                ("grown x r 0", errors.InvalidNumber, {"value": Ratio(0)}),
                ("made x q 0", errors.InvalidNumber, {"value": Ratio(0)}), ("made x one 1", errors.NumberAlone, {}),
                ("made x c 1", errors.TooMany, {"what": "degree", "limit": 24}), ("made x b 3", errors.WrongDegree, {}),
                ("line x n q", errors.NoughtPoly, {}), ("line x one one", errors.NumberAlone, {}),
                ("line x b q", errors.TooMany, {"what": "degree", "limit": 24}), ("put x r one", errors.NumberAlone,
                                                                                  {}),
                ("put x r b", errors.TooMany, {"what": "degree", "limit": 60}), ("put x r d", errors.WrongDegree, {}),
                ("left x r c", errors.TooMany, {"what": "degree", "limit": 30}),
                ("unit x r p q", errors.InvalidUnit, {"value": (ratios([1, 2, 1]), ratios([0, 1]))}),
                ("unit x r n n", errors.InvalidUnit, {"value": ([], [])}), ("least x g", errors.NeverRound, {}),
                ("power x u 0", errors.InvalidMany, {"value": 0}), ("power x u 6", errors.InvalidMany, {"value": 6})]:
            self.assert_fails(desk, line, error, **told)
        far = made("poly d " + FAR.replace(" ", ","), "root r d")
        self.assert_fails(far, "least u r", errors.TooMany, what="primes", limit=24)
        self.assert_fails(far, "period r", errors.TooMany, what="primes", limit=24)
        great = made(*start[:11], "drop n", "power v u 5", "power w v 4", "drop p")
        self.assert_fails(great, "power x w 2", errors.TooMany, what="degree", limit=60)

    def test_the_first_name_that_is_unknown_or_of_another_kind(self):
        desk = made("poly p -1,0,1", "root r p", "poly o 0,1", "poly i 1", "unit u r o i")
        shapes = {"sum x": "PP", "less x": "PP", "times x": "PP", "into x": "PP", "quotient x": "PP", "rest x": "PP",
                  "common x": "PP", "derived x": "P", "odd x": "P", "root x": "P", "line x": "PP", "put x": "RP",
                  "inside x": "R", "nearest x": "R", "left x": "RP", "unit x": "RPP", "least x": "R", "contrary x": "U",
                  "first x": "U", "second x": "U", "logof x": "U", "norm": "U", "reals": "P", "period": "R",
                  "claim k round": "R", "claim k never": "R", "claim k log": "RP", "claim k nolog": "RP",
                  "claim k unit": "RPP", "claim k nounit": "RPP", "claim k alike": "RR", "claim k unlike": "RR"}
        for head, shape in shapes.items():
            for at, wanted in enumerate(shape):
                good = [one.lower() for one in shape]
                for other in "prunx":
                    if other == wanted.lower():
                        continue
                    for behind in ("good", "bad"):
                        rest = good[at + 1:] if behind == "good" else ["y"] * (len(shape) - at - 1)
                        line = " ".join([head] + good[:at] + [other] + rest)
                        self.assert_fails(desk, line, errors.UnknownName, value=other)
        for line, value in [("scaled x r 1", "r"), ("amount u 1 1", "u"), ("moved x p 1 1", "p"), ("grown x u 1", "u"),
                            ("made x r 1", "r"), ("power x r 1", "r"), ("worth r 1", "r"), ("chain p 1", "p"),
                            ("primes u 1", "u"), ("modulo p 3", "p"), ("claim k sweeps p r 1", "p"),
                            ("claim k leaves r r 1", "r"),
                            ("claim k keeps u 3", "u"), ("claim k spoils y 9", "y"), ("drop y", "y"), ("show y", "y"),
                            ("degree y", "y"), ("same y p", "y"), ("same p y", "y"), ("same p r", "r"), ("same r u",
                                                                                                         "u"),
                            ("same u p", "p"), ("same r x", "x")]:
            self.assert_fails(desk, line, errors.UnknownName, value=value)

    def test_taken_ahead_of_unknown(self):
        desk = made(*START)
        for line in DEEDS:
            words = line.split(" ")
            if words[0] in ("claim", "amount", "drop", "forget"):
                continue
            for name in ("p", "r", "u"):
                self.assert_fails(desk, " ".join([words[0],
                                  name] + ["y" if word.isalpha() else word for word in words[2:]]),
                                  errors.NameTaken, name=name)
        self.assert_fails(desk, "claim a round y", errors.LabelTaken, label="a")
        self.assert_fails(desk, "claim b keeps y 9", errors.LabelTaken, label="b")
        for line in ("forget x", "state x", "claimed x", "forget p", "state r"):
            self.assert_fails(desk, line, errors.UnknownLabel, value=line.split(" ")[1])

    def test_names_and_labels_to_twelve(self):
        desk = made("poly p 1,0,1", "root r p", "poly n -")
        for number in range(9):
            desk.do(f"scaled x{number} p {number}")
        self.assertEqual(len(desk.names), 12)
        told = {"what": "names", "limit": 12}
        self.assert_fails(desk, "poly y 1", errors.TooMany, **told)
        self.assert_fails(desk, "root y p", errors.TooMany, **told)
        self.assert_fails(desk, "poly x1 1", errors.NameTaken, name="x1")
        self.assert_fails(desk, "root y z", errors.UnknownName, value="z")
        self.assert_fails(desk, "root y n", errors.WrongDegree)
        self.assert_fails(desk, "told y 7", errors.InvalidMany, value=7)
        for number in range(12):
            self.assertEqual(desk.do(f"claim l{number} keeps r {[3, 5, 7][number % 3]}"), f"l{number} true")
        told = {"what": "labels", "limit": 12}
        self.assert_fails(desk, "claim y keeps r 3", errors.TooMany, **told)
        self.assert_fails(desk, "claim y round r", errors.TooMany, **told)
        self.assert_fails(desk, "claim y keeps r 4", errors.InvalidClaim, value=("keeps", desk["r"], 4))
        self.assert_fails(desk, "claim l3 keeps r 4", errors.LabelTaken, label="l3")
        self.assert_fails(desk, "claim y keeps p 3", errors.UnknownName, value="p")
        desk.do_all("drop x0", "poly y 1", "forget l0", "claim y round r")
        self.assertEqual((len(desk.names), len(desk.labels)), (12, 12))
        self.assert_says(desk, ("amount p 0 5", "-"), ("amount p 0 1", "-"))

    def test_deeds_to_three_hundred(self):
        desk = made("poly p 1,0,1", "root r p", "claim k round r")
        desk.do_all(*["amount p 1 1", "amount p 1 0"] * 148)
        desk.do("amount p 1 1")
        self.assertEqual((len(desk), len(desk.lines())), (300, 300))
        told = {"what": "deeds", "limit": 300}
        for line in ("amount p 0 1", "poly x 1", "drop p", "forget k", "claim l round r", "scaled x p 2"):
            with self.assertRaises(errors.TooMany) as caught:
                desk.do(line)
            self.assertEqual(vars(caught.exception), told)
        for line, error in [("amount p 25 1", errors.InvalidPlace), ("poly p 1", errors.NameTaken),
                            ("claim l keeps r 4", errors.InvalidClaim), ("drop x", errors.UnknownName)]:
            self.assertRaises(error, desk.do, line)
        self.assertEqual(len(desk), 300)
        self.assert_says(desk, ("undo", "amount p 1 1"), ("drop p", "-"))
        self.assertRaises(errors.TooMany, desk.do, "forget k")
        self.assert_says(desk, ("undo", "drop p"), ("redo", "drop p"), ("state k", "true"))
        for number in range(10):
            desk.do("undo")
        desk.do_all(*[f"poly x{number} 1" for number in range(10)])
        self.assertEqual((len(desk), len(desk.names)), (300, 12) if "p" in desk else (300, 11))


class AskingTest(DeskChecks):
    def test_answers(self):
        desk = made("poly p 0,-2,0,0,1", "poly q 2,0,1", "poly n -", "root r p", "told t 3", "poly f 1,1,0,0,1",
                    "root g f",
                    "poly m -1,0,0,1", "poly x 0,1", "unit u r m x", "power v u 3", "poly h 2,0,1,0")
        before = all_of(desk)
        self.assert_says(
            desk, ("show p", "0,-2,0,0,1"), ("show n", "-"), ("show r", "0,-2,0,0,1"), ("show u", "-1,0,0,1; 0,1"),
            ("degree p", "4"), ("degree n", "-1"), ("degree r", "4"), ("degree u", "3"), ("degree v", "9"), ("norm u",
                                                                                                             "1"),
            ("worth p 2", "12"), ("worth p -1/2", "17/16"), ("worth n 5", "0"), ("reals p", "2"), ("reals q", "0"),
            ("chain r 1", "0,0,1"), ("chain r 3", "0,0,1; 0,-1; 0,0,2"), ("period r", "3"), ("period g", "never"),
            ("primes r 3", "5 7 11"), ("primes r 0", "-"), ("primes g 1", "3"), ("modulo r 5", "3"), ("modulo g 3",
                                                                                                      "7"),
            ("same p q", "no"), ("same q h", "yes"), ("same r t", "yes"), ("same r g", "no"), ("same u u", "yes"),
            ("same u v", "no"), ("same n n", "yes"), ("names", "f g h m n p q r t u v x"), ("states", "-"))
        self.assertEqual(desk.do("chain r 8").count(";"), 7)
        self.assertEqual(len(desk.do("primes r 24").split(" ")), 24)
        self.assertEqual(all_of(desk), before)
        for line, error, told in [
                ("reals n", errors.NoughtPoly, {}), ("chain r 0", errors.InvalidMany, {"value": 0}),
                ("chain r 9", errors.InvalidMany, {"value": 9}), ("primes r 25", errors.InvalidMany, {"value": 25}),
                ("modulo r 4", errors.InvalidPrime, {"value": 4}), ("modulo r 3", errors.NotKept, {}),
                ("modulo r 9999", errors.InvalidPrime, {"value": 9999})]:
            self.assert_fails(desk, line, error, **told)

    def test_units_of_unlike_roots(self):
        desk = made("poly a -1,0,1", "poly b -4,0,4", "root r a", "root s b", "poly x 0,1", "poly y 0,2", "poly i 1",
                    "unit u r x i", "unit v s y i", "unit w r x i", "contrary c u")
        self.assert_says(desk, ("same u v", "no"), ("same u w", "yes"), ("same u c", "no"), ("show v", "0,2; 1"))
        # the halves are the same, but not the Roots
        other = made("poly a -1,0,1", "poly b -2,0,1", "root r a", "root s b", "poly x 0,1", "poly i 1", "unit u r x i",
                     "unit v s x i")
        self.assert_says(other, ("show u", "0,1; 1"), ("show v", "0,1; 1"), ("same u v", "no"), ("norm u", "1"),
                         ("norm v", "2"))

    def test_long_numbers_in_answers(self):
        desk = made("poly p 999999/999998,-999983/999979", "times q p p", "times s q q")
        number = Ratio(999999, 999998)
        self.assert_says(desk, ("worth s 0", str(number * number * number * number)))
        self.assertTrue(desk.do("show s").startswith(str(number * number * number * number) + ","))


class StatesTest(DeskChecks):
    def test_all_words(self):
        start = ["poly d 0,-2,0,0,1", "root r d", "poly m -1,0,0,1", "poly x 0,1", "poly f 1,1,0,0,1", "root g f",
                 "poly e 0,-2,9,-6,1", "root s e", "poly o -1,9,-6,1", "moved h r 2 1"]
        for words, state, claim in [
                ("round r", "true", ("round", 1)), ("round g", "false", None), ("never g", "true", None),
                ("never r", "false", None), ("log r m", "false", None), ("nolog r m", "true", None), ("log r x",
                                                                                                      "true", None),
                ("nolog r x", "false", None), ("unit r m x", "true", None), ("unit r x m", "false", None),
                ("nounit r m x", "false", None), ("nounit r x x", "true", None), ("alike r h", "true", None),
                ("alike r g", "false", None), ("unlike r h", "false", None), ("unlike r s", "true", None),
                ("sweeps s o 1", "true", None), ("sweeps s o 1/2", "false", None), ("leaves s o 1", "false", None),
                ("leaves r m 1", "true", None), ("sweeps s o -1", "false", None), ("keeps r 5", "true", None),
                ("keeps r 3", "false", None), ("spoils r 3", "true", None), ("spoils r 5", "false", None)]:
            desk = made(*start)
            self.assert_says(desk, ("claim k " + words, "k " + state), ("state k", state), ("states", "k " + state),
                             ("claimed k", words))
            told = desk.claim_of("k")
            self.assertIs(told.__class__, tuple)
            self.assertEqual(told[0], words.split(" ")[0])
            self.assertEqual("true" if is_true(told) else "false", state)
        self.assertEqual(made(*start, "claim k sweeps s o 1").claim_of("k"),
                         ("sweeps", Root([0, -2, 9, -6, 1]), ratios([-1, 9, -6, 1]), Ratio(1)))
        claim = made(*start, "claim k keeps r 5").claim_of(label="k")
        self.assertEqual((claim, claim[2].__class__), (("keeps", Root([0, -2, 0, 0, 1]), 5), int))

    def test_claims_that_are_none(self):
        desk = made("poly d 1,0,1", "root r d", "poly b " + ",".join(["1"] * 25), "times c b b", "poly x 0,1",
                    "poly f " + FAR.replace(" ", ","), "root g f", "poly y 0,0,1")
        root, great, far = desk["r"], desk["c"], desk["g"]
        for line, value in [
                ("keeps r 9", ("keeps", root, 9)), ("spoils r 2", ("spoils", root, 2)), ("keeps r 0", ("keeps", root,
                                                                                         0)),
                ("log r c", ("log", root, great)), ("nolog r c", ("nolog", root, great)),
                ("unit r x c", ("unit", root, ratios([0, 1]), great)), ("nounit r c x", ("nounit", root, great,
                                                                        ratios([0, 1]))),
                ("sweeps r c 1/2", ("sweeps", root, great, Ratio(1, 2))), ("leaves r c 1", ("leaves", root, great,
                                                                           Ratio(1))),
                # a limit stops these
                ("round g", ("round", far)), ("never g", ("never", far)), ("log g y", ("log", far, ratios([0, 0, 1])))]:
            self.assert_fails(desk, "claim k " + line, errors.InvalidClaim, value=value)
        self.assert_says(desk, ("claim k log g x", "k false"), ("claim l keeps g 5", "l true"))

    def test_states_that_change(self):
        desk = made("poly p 0,1,0,0,1", "root r p", "poly q 0,1", "claim k round r", "claim a log r q", "poly z 1",
                    "claim b log r z")
        self.assert_says(
            desk, ("states", "a true, b false, k true"), ("drop r", "a gone, b gone, k gone"), ("state k", "gone"),
            ("states", "a gone, b gone, k gone"), ("claimed k", "round r"), ("drop p", "-"), ("poly r 1", "-"),
            ("drop r", "-"), ("poly p 1,1,0,0,1", "-"), ("root r p", "a false, b false, k false"),
            ("amount q 0 1", "-"), ("forget a", "-"), ("states", "b false, k false"))
        self.assertEqual([desk.claim_of("k"), desk.labels], [("round", Root([1, 1, 0, 0, 1])), ["b", "k"]])

    def test_gone_and_back(self):
        desk = made("poly p 0,1,0,0,1", "root r p", "claim k round r")
        self.assertEqual(desk.claim_of("k"), ("round", Root([0, 1, 0, 0, 1])))
        self.assert_says(desk, ("drop r", "k gone"))
        self.assertIsNone(desk.claim_of("k"))
        self.assert_says(desk, ("undo", "drop r"), ("state k", "true"), ("redo", "drop r"), ("state k", "gone"),
                         ("told r 4", "k true"), ("drop r", "k gone"), ("poly r 1,0,1", "-"),
                         ("state k", "gone"), ("drop r", "-"), ("told r 5", "k true"))

    def test_things_that_are_no_parts_any_more(self):
        start = ["poly d 1,0,1", "root r d", "poly p 0,1", "claim k nolog r p", "claim l unit r p p",
                 "poly b " + ",".join(["1"] * 25), "times c b b"]
        desk = made(*start)
        self.assert_says(desk, ("states", "k false, l false"), ("drop p", "k gone, l gone"), ("sum p c c", "-"),
                         ("states", "k gone, l gone"), ("drop p", "-"), ("poly p 1", "k false, l false"))
        self.assertIsNone(made(*start, "drop p", "sum p c c").claim_of("k"))
        # a limit stops it
        desk = made("poly d 1,0,1", "root r d", "claim k round r", "claim l keeps r 5", "poly f " + FAR.replace(" ",
                    ","))
        self.assert_says(desk, ("states", "k true, l true"), ("drop r", "k gone, l gone"), ("root r f", "l true"),
                         ("state k", "gone"),
                         ("drop r", "l gone"), ("root r d", "k true, l true"))
        self.assertIsNone(made("poly d 1,0,1", "root r d", "claim k round r", "poly f " + FAR.replace(" ", ","),
                          "drop r",
                               "root r f").claim_of("k"))

    def test_amounts_change_states(self):
        desk = made("poly d 0,-2,0,0,1", "root r d", "poly p -1,0,0,1", "poly q 0,1", "claim u unit r p q",
                    "claim n nounit r p q", "claim l log r q", "claim k keeps r 5")
        self.assert_says(desk, ("amount p 0 1", "n true, u false"), ("amount p 0 1", "-"), ("amount p 0 -1",
                         "n false, u true"),
                         ("amount q 0 1", "l false, n true, u false"), ("amount d 0 7", "-"),
                         ("amount q 0 0", "l true, n false, u true"))

    def test_labels(self):
        desk = made(*START)
        for value in ["x", "p", ""] + VALUES + [("a",), ["a"]]:
            self.assert_error(errors.UnknownLabel, {"value": value}, desk.claim_of, value)
            self.assert_error(errors.UnknownLabel, {"value": value}, desk.claim_of, label=value)
        self.assert_says(desk, ("forget a", "-"), ("forget b", "-"))
        self.assert_fails(desk, "state a", errors.UnknownLabel, value="a")
        self.assert_says(desk, ("claim a never r", "a false"), ("claim p round r", "p true"), ("states",
                         "a false, c false, d false, p true"))


class UndoTest(DeskChecks):
    def test_undo_and_redo(self):
        desk = Desk()
        told = [all_of(desk)[0]]
        for line in START:
            desk.do(line)
            told.append(all_of(desk)[0])
        for at in range(len(START) - 1, -1, -1):
            self.assertEqual(desk.do("undo"), START[at])
            self.assertEqual(all_of(desk)[0], told[at])
        self.assert_fails(desk, "undo", errors.NothingToUndo)
        for at, line in enumerate(START):
            self.assertEqual(desk.do("redo"), line)
            self.assertEqual(all_of(desk)[0], told[at + 1])
        self.assert_fails(desk, "redo", errors.NothingToRedo)

    def test_a_deed_between(self):
        desk = made("poly p 1", "poly q 2", "poly s 3")
        self.assert_says(desk, ("undo", "poly s 3"), ("undo", "poly q 2"), ("names", "p"), ("show p", "1"))
        for line, error in [("show q", errors.UnknownName), ("poly p 1", errors.NameTaken), ("x",
                            errors.InvalidCommand),
                            ("amount p 25 1", errors.InvalidPlace), ("root r p", errors.WrongDegree)]:
            self.assertRaises(error, desk.do, line)
        desk.attempt("poly y 1", "undo", "redo")
        self.assert_says(desk, ("redo", "poly q 2"), ("amount q 0 2", "-"))
        self.assert_fails(desk, "redo", errors.NothingToRedo)
        self.assertEqual(desk.lines(), ["poly p 1", "poly q 2", "amount q 0 2"])
        self.assert_says(desk, ("undo", "amount q 0 2"), ("redo", "amount q 0 2"), ("undo", "amount q 0 2"),
                         ("undo", "poly q 2"), ("drop p", "-"))
        self.assert_fails(desk, "redo", errors.NothingToRedo)
        self.assertEqual(desk.lines(), ["poly p 1", "drop p"])

    def test_dropped_and_made_anew(self):
        desk = made("poly p 1,0,1", "root r p", "claim k keeps r 5", "drop p", "drop r", "poly r 1", "poly p 7",
                    "drop r",
                    "told r 4")
        self.assert_says(desk, ("state k", "true"), ("undo", "told r 4"), ("state k", "gone"), ("undo", "drop r"),
                         ("show r", "1"),
                         ("undo", "poly p 7"), ("undo", "poly r 1"), ("undo", "drop r"), ("show r", "1,0,1"),
                         ("state k", "true"),
                         ("undo", "drop p"), ("show p", "1,0,1"), ("undo", "claim k keeps r 5"), ("states", "-"),
                         ("redo", "claim k keeps r 5"), ("states", "k true"))


class RandomTest(DeskChecks):
    def line(self, source, own):
        """A command, most of whose names are those of things of the right kind."""
        more = ["undo", "redo", "states", "drop p", "drop r", "told r 3", "least u r", "first p u", "second q u",
                "unit v r p q"]
        line = source.choice(DEEDS + OTHERS + more * 2)
        words = line.split(" ")
        kinds = {"p": "P", "q": "P", "r": "R", "s": "R", "u": "U", "v": "U"}
        for at in range(1, len(words)):
            if words[at] in kinds:
                names = [name for name in sorted(own.things) if kind(own.things[name]) == kinds[words[at]]]
                if source.randrange(8) == 0 or not names:
                    names = ["p", "q", "r", "s", "u", "v", "x"]
                words[at] = source.choice(names)
            elif words[at] == "k":
                words[at] = source.choice("kl")
        if words[0] in MADE and source.randrange(3):
            words[1] = source.choice(["p", "q", "r", "s", "u", "v", "x", "y", "z", "a1", "b1", "c1", "d1", "e1", "f1"])
        if words[0] == "poly":
            words[2] = source.choice(["0,1,0,0,1", "0,-2,0,0,1", "1,0,1", "-1,0,1", "1,1,0,0,1", "0,1", "-1,0,0,1",
                                     "-", "2,1",
                                      "0,-2,9,-6,1", "-1,9,-6,1", "-3,1"])
        if words[0] == "amount":
            words[2:] = [source.choice(["0", "1", "24", "25"]), source.choice(["0", "1", "-2"])]
        return " ".join(words)

    def run_both(self, desk, own, line):
        found, wanted = [], []
        for result, one in ((found, desk), (wanted, own)):
            try:
                result.append(one.do(line))
            except (errors.RootError, errors.MissingError, errors.StateError, errors.LimitError) as error:
                result += [error.__class__, vars(error)]
        self.assertEqual((line, found), (line, wanted))
        return len(found) == 1

    def test_both_desks(self):
        met = set()
        for seed in range(20):
            source = source_of(300 + seed)
            desk, own = Desk(), OwnDesk()
            for line in START if seed % 2 else []:
                self.run_both(desk, own, line)
            for _ in range(180):
                line = self.line(source, own)
                if self.run_both(desk, own, line):
                    met.add(line.split(" ")[0])
                self.assertEqual(desk.names, sorted(own.things))
                self.assertEqual(desk.labels, sorted(own.notes))
                self.assertEqual((len(desk), desk.lines()), (len(own.done), [row[0] for row in own.done]))
                self.assertEqual({name: desk[name] for name in desk.names}, own.things)
                self.assertEqual({label: desk.do("state " + label) for label in desk.labels}, own.states())
                for label in desk.labels:
                    wanted = own.claim(label) if own.state(label) != "gone" else None
                    self.assertEqual(desk.claim_of(label), wanted)
            again = Desk.again(desk.lines())
            self.assertEqual(all_of(again)[0], all_of(desk)[0])
        self.assertLessEqual(len({line.split(" ")[0] for line in DEEDS + OTHERS} - met), 3)
