"""rootsround.commands: names, commands and deeds."""

from rootsround.commands import is_command, is_deed, is_name
from rootsround.ratios import Ratio
from rootsround.roots import Root
from tests.helpers import Checks

# each command of both tables, with words that may stand there
DEEDS = """
poly p -1,0,1/2|poly p -|poly p 0|sum s p q|less s p p|times s p q|into s p q|quotient s p q|rest s p q|common s p q
derived s p|odd s p|scaled s p -1/2|amount p 0 1|amount p 9999 -999999/999998|root r p|told r 4|told r 0
moved s r 1 -2|grown s r 5/7|made r p 3|line r p q|put s r p|inside p r|nearest p r|left p r q|unit u r p q|least u r
power v u 2|contrary v u|first p u|second p u|logof p u|drop p|claim k round r|claim k never r|claim k log r p
claim k nolog r p|claim k unit r p q|claim k nounit r p q|claim k alike r s|claim k unlike r s|claim k sweeps r p 1
claim k leaves r p -1/2|claim k keeps r 5|claim k spoils r 9999|forget k
""".replace("\n", "|").strip("|").split("|")
OTHERS = """
undo|redo|state k|states|claimed k|names|show p|degree p|norm u|worth p 1/2|reals p|chain r 8|chain r 0|period r
primes r 24|primes r 9999|modulo r 5|same p q
""".replace("\n", "|").strip("|").split("|")
NAMES = ["a", "z", "p", "abcdefgh", "a1234567", "x0", "poly", "undo", "claim", "round", "state", "z9z9z9z9"]
NOT_NAMES = ["", "A", "1", "1a", "a_", "_a", "a b", "abcdefghi", "a12345678", "pQ", "a-", "-", "a.", "a\n", "a ",
             " a", "a,b",
             "0", "aB"]
NUMBERS = ["0", "1", "-1", "999999", "-999999", "1/2", "-1/2", "999999/999998", "-999998/999999", "10/3", "100"]
NOT_NUMBERS = ["", "-", "+1", "01", "-0", "00", "1000000", "-1000000", "1/1000000", "1000000/3", "2/4", "1/1", "0/2",
               "1/0",
               "1/-2", "1/", "/2", "1//2", "1/2/3", "1.5", "x", "1e3", "--1", "1_0", "1,2", "3/1", "-0/5", "1/02", "a"]
COUNTS = ["0", "1", "9", "10", "24", "9999", "1000"]
NOT_COUNTS = ["", "-", "-1", "01", "00", "10000", "+1", "1/2", "1.0", "x", "1,2", "99999", "-0"]
LISTS = NUMBERS + ["-", "0,0", "1,-1,1/2", ",".join(["1"] * 25), ",".join(["-999999/999998"] * 25)]
NOT_LISTS = [word for word in NOT_NUMBERS if word not in ("-", "1,2")] + [
    ",", "1,", ",1", "1,,2", "-,-", "1,-", ",".join(["1"] * 26), "1;2", "1, 2", "[1]", "1,2/4", "1,1000000"]
VALUES = [None, True, False, 0, 1, b"undo", [], ["undo"], ("undo",), {}, {"undo"}, object(), Ratio(1), str, Root([1,
          0, 1])]


class NameTest(Checks):
    def test_names(self):
        for value in NAMES:
            self.assert_bool(is_name(value), True)
            self.assert_bool(is_name(value=value), True)
        for sign in "abcdefghijklmnopqrstuvwxyz":
            self.assert_bool(is_name(sign), True)
            self.assert_bool(is_name("a" + sign), True)
        for sign in "0123456789":
            self.assert_bool(is_name("a" + sign), True)
            self.assert_bool(is_name(sign), False)

    def test_others(self):
        for value in NOT_NAMES + VALUES + [["a"], ("a", "b"), list("abc"), {"a": 1}]:
            self.assert_bool(is_name(value), False)
        for code in range(32, 127):
            sign = chr(code)
            if sign not in "abcdefghijklmnopqrstuvwxyz0123456789" and sign != chr(37):
                self.assert_bool(is_name("a" + sign), False)
                self.assert_bool(is_name(sign), False)


class CommandTest(Checks):
    def check(self, value, command, deed):
        with self.subTest(value=value):
            self.assert_bool(is_command(value), command)
            self.assert_bool(is_deed(value), deed)
            self.assert_bool(is_command(value=value), command)
            self.assert_bool(is_deed(value=value), deed)

    def test_all_commands(self):
        for line in DEEDS:
            self.check(line, True, True)
        for line in OTHERS:
            self.check(line, True, False)
        self.assertEqual(len({line.split(" ")[0] for line in DEEDS}), 32)
        self.assertEqual(len({line.split(" ")[0] for line in OTHERS}), 16)
        self.assertEqual(len({line.split(" ")[2] for line in DEEDS if line.startswith("claim")}), 12)

    def test_values_that_are_no_strings(self):
        for value in VALUES:
            self.check(value, False, False)

    def test_one_word_too_many_or_too_few(self):
        for line in DEEDS + OTHERS:
            words = line.split(" ")
            for at in range(len(words)):
                fewer = " ".join(words[:at] + words[at + 1:])
                self.check(fewer, fewer in DEEDS + OTHERS, False)
                self.check(" ".join(words[:at] + [words[at], words[at]] + words[at + 1:]), False, False)
            self.check(line + " x", False, False)

    def test_blanks_and_line_feeds(self):
        for line in DEEDS + OTHERS:
            for changed in (" " + line, line + " ", line.replace(" ", "  ", 1) + " " * (" " not in line), line + "\n",
                            "\n" + line, line.replace(" ", "\t", 1) + "\t" * (" " not in line), line.upper(),
                            line + "\n" + line, "." + line):
                self.check(changed, False, False)
        for line in ("", " ", "\n", "x", "polys p 1", "Undo", "undoes", "claim", "claim k", "claim k truly r",
                     "claims k round r",
                     "round r", "never r", "sweeps r p 1", "if", "help"):
            self.check(line, False, False)

    def test_names_and_labels(self):
        for line in DEEDS + OTHERS:
            words = line.split(" ")
            for at in range(1, len(words)):
                if words[0] == "claim" and at == 2 or not words[at][0].isalpha():
                    continue
                for name in NAMES:
                    self.check(" ".join(words[:at] + [name] + words[at + 1:]), True, line in DEEDS)
                for name in NOT_NAMES:
                    self.check(" ".join(words[:at] + [name] + words[at + 1:]), False, False)

    def test_numbers(self):
        for head, tail in [("scaled s p ", ""), ("amount p 3 ", ""), ("moved s r ", " 1"), ("moved s r 1 ", ""),
                           ("grown s r ", ""), ("made r p ", ""), ("claim k sweeps r p ", ""), ("claim k leaves r p ",
                                                                                                ""),
                           ("worth p ", "")]:
            for word in NUMBERS:
                self.check(head + word + tail, True, not head.startswith("worth"))
            for word in NOT_NUMBERS:
                self.check(head + word + tail, False, False)

    def test_counts(self):
        for head, tail in [("amount p ", " 1"), ("told r ", ""), ("power v u ", ""), ("claim k keeps r ", ""),
                           ("claim k spoils r ", ""), ("chain r ", ""), ("primes r ", ""), ("modulo r ", "")]:
            for word in COUNTS:
                self.check(head + word + tail, True, head.split(" ")[0] not in ("chain", "primes", "modulo"))
            for word in NOT_COUNTS:
                self.check(head + word + tail, False, False)

    def test_endless_numbers(self):
        for word in ["1" * 9000, "-" + "1" * 9000, "1/" + "7" * 9000]:
            for line in ("told r ", "poly p ", "poly p 1,", "scaled s p "):
                self.check(line + word, False, False)

    def test_lists_of_numbers(self):
        for word in LISTS:
            self.check("poly p " + word, True, True)
        for word in NOT_LISTS:
            self.check("poly p " + word, False, False)

    def test_the_document(self):
        lines = ["poly p -1,0,1/2", "poly p 1,", "claim k round r p"]
        self.assertEqual([is_command(line) for line in lines], [True, False, False])
        self.assertEqual([is_deed("claim k sweeps r p 1"), is_deed("undo")], [True, False])
