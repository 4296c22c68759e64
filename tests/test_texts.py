"""rootsround.texts and rootsround.readers: written forms, and which lines of others are wrong."""

from rootsround.errors import InvalidForm, InvalidSort, InvalidText
from rootsround.ratios import Ratio
from rootsround.readers import read
from rootsround.roots import Root
from rootsround.states import State, first_state
from rootsround.texts import is_form, sorts, written
from tests.helpers import NOT_LISTS, NOT_POLYS, Checks, Sub, fracs, ratios, some_number, some_poly, some_root, source_of

SORTS = ["poly", "root", "pair", "state", "numbers", "primes"]
NOT_SORTS = [None, True, 0, "", "Poly", "poly ", "polys", "first", "at", b"poly", [], ["poly"], ("poly",), {}, {"poly"},
             {"poly": 1}, object(), Ratio(1), str, "prime", "number", "states", "roots", "units"]
HOOK, PLUS_ONE = Root([0, 1, 0, 0, 1]), Root([1, 0, 1])
# for each sort values and their written forms
FORMS = [
    ("poly", [1, Ratio(-3, 2), 0], "poly 1 -3/2\n"), ("poly", [], "poly\n"), ("poly", (0, Ratio(0)), "poly\n"),
    ("poly", (0, 0, Ratio(4, 2)), "poly 0 0 2\n"), ("poly", [Ratio(-7)], "poly -7\n"), ("poly", [0] * 61, "poly\n"),
    ("poly", [1] * 61, "poly" + " 1" * 61 + "\n"), ("poly", [Sub(3), Ratio(0, 5), Ratio(5, 10)], "poly 3 0 1/2\n"),
    ("root", Root([1, 0, 4]), "root 1 0 4\n"), ("root", HOOK, "root 0 1 0 0 1\n"),
    ("root", Root([Ratio(-1, 3), Ratio(5, 7), Ratio(4, 9), 0]), "root -1/3 5/7 4/9\n"),
    ("pair", ([2], [0, 1]), "first 2\nsecond 0 1\n"), ("pair", ([], (0,)), "first\nsecond\n"),
    ("pair", ((1, 2, 0), [Ratio(-1, 9)]), "first 1 2\nsecond -1/9\n"), ("pair", ([], [1]), "first\nsecond 1\n"),
    ("pair", ([0, 5], []), "first 0 5\nsecond\n"),
    ("state", State(HOOK, [0, 0, 1], [0, 1]), "state 0 1 0 0 1\nfirst 0 0 1\nsecond 0 1\n"),
    ("state", first_state(PLUS_ONE), "state 1 0 1\nfirst\nsecond 1\n"),
    ("state", State(PLUS_ONE, [0] * 20 + [Ratio(1, 2)], [-3]), "state 1 0 1\nfirst" + " 0" * 20 + " 1/2\nsecond -3\n"),
    ("numbers", [0], "numbers 0\n"), ("numbers", (1, Ratio(1, 2), 0), "numbers 1 1/2 0\n"),
    ("numbers", [Ratio(-12, 5), -12, Ratio(6, 3)], "numbers -12/5 -12 2\n"),
    ("numbers", [0] * 61, "numbers" + " 0" * 61 + "\n"),
    ("primes", [(3, 7)], "primes\nat 3 7\n"), ("primes", ((9973, 0), (3, 999)), "primes\nat 9973 0\nat 3 999\n"),
    ("primes", [(3, 7), (5, 9), (3, 7)], "primes\nat 3 7\nat 5 9\nat 3 7\n"),
    ("primes", [(5, 1)] * 24, "primes\n" + "at 5 1\n" * 24)]


def told_value(value):
    """The value that is read again: lists, numbers as Ratios, polynomials and pairs told."""
    if isinstance(value, (Root, State)):
        return value
    return ratios(value)


class SortsTest(Checks):
    def test_sorts(self):
        self.assertEqual(self.assert_pure(sorts), SORTS)
        self.assertIs(sorts().__class__, list)

    def test_wrong_sorts(self):
        for value in (None, [1], HOOK):
            for function in (is_form, written):
                good = {"sort": "poly", "value": value}
                self.assert_refuses(function, good, "sort", InvalidSort, NOT_SORTS)


class FormTest(Checks):
    def test_forms(self):
        for sort, value, text in FORMS:
            self.assert_bool(is_form(sort, value), True)
            self.assertEqual(self.assert_pure(written, sort, value), text)
            self.assertEqual(written(value=value, sort=sort), text)
            self.assert_bool(is_form(value=value, sort=sort), True)

    def test_values_of_other_sorts(self):
        polys = [None, True, 0, "poly", {}, object(), HOOK, first_state(HOOK)] + NOT_POLYS
        wrong = {
            "poly": polys,
            "root": NOT_LISTS + [[], [1, 0, 1], (1, 0, 1), Root, [HOOK], first_state(HOOK)],
            "pair": NOT_LISTS + [[[1], [1]], ([1],), ([1], [1], [1]), (1, [1]), ([1], 1), ([True], [1]), ([1], [None]),
                                 ([1] * 62, [1]), ([1], [1] * 62), (), (HOOK, [1]), HOOK],
            "state": NOT_LISTS + [[], HOOK, State, ([0, 0, 1], [0, 1]), [first_state(HOOK)]],
            "numbers": NOT_LISTS + [[], (), [True], [1, None], ["1"], [1] * 62, (1, [1]), [HOOK], [1, 2, "3"], HOOK],
            "primes": NOT_LISTS + [[], (), [3, 7], [(3,)], [(3, 7, 9)], [[3, 7]], [(9, 2)], [(2, 1)], [(3, -1)],
                                   [(3, 1000)], [(3, True)], [(True, 1)], [(3, Ratio(1))], [(Ratio(3), 1)],
                                   [(10007, 1)], [(3, 7), (9, 2)], [(3, 7)] * 25, [(3, None)], [("3", 1)], [(1, 1)],
                                   [(-3, 1)],
                                   [(3, "7")], [None], HOOK]}
        for sort, values in wrong.items():
            for value in values:
                with self.subTest(sort=sort, value=value):
                    self.assert_bool(is_form(sort, value), False)
                    self.assert_error(InvalidForm, {"value": value}, written, sort, value)

    def test_edges(self):
        self.assert_bool(is_form("primes", [(3, 999), (9973, 0)]), True)
        self.assert_bool(is_form("primes", [(3, 7)] * 24), True)
        self.assert_bool(is_form("primes", ((3, 7),)), True)
        self.assert_bool(is_form("numbers", (0,) * 61), True)
        self.assert_error(InvalidSort, {"value": None}, written, None, None)


class ReadTest(Checks):
    def check_wrong(self, text, line):
        with self.subTest(text=text):
            self.assert_error(InvalidText, {"line": line}, read, text)
            self.assert_error(InvalidText, {"line": line}, read, text=text)

    def test_what_is_written_is_read(self):
        for sort, value, text in FORMS:
            found = self.assert_pure(read, text)
            self.assertIs(found.__class__, tuple)
            self.assertEqual(found[0], sort)
            self.assertEqual(read(text=text), found)
            if sort in ("root", "state"):
                self.assertEqual(found[1], value)
            elif sort == "pair":
                self.assertIs(found[1].__class__, tuple)
                self.assertEqual(found[1], (ratios(value[0]), ratios(value[1])))
            elif sort == "primes":
                self.assertEqual(found[1], list(value))
                self.assertEqual({part.__class__ for one in found[1] for part in one}, {int})
                self.assertEqual({one.__class__ for one in found[1]}, {tuple})
            else:
                numbers = ratios(value) if sort == "poly" else [Ratio(0) + number for number in value]
                self.assertEqual(found[1], numbers)
                self.assertEqual({one.__class__ for one in found[1]} - {Ratio}, set())
            self.assertEqual(written(*found), text)

    def test_any_values(self):
        source = source_of(271)
        for _ in range(60):
            poly, other = some_poly(source, source.randint(-1, 9)), some_poly(source, source.randint(-1, 9))
            self.assertEqual(read(written("poly", poly)), ("poly", ratios(poly)))
            self.assertEqual(read(written("pair", (poly, other))), ("pair", (ratios(poly), ratios(other))))
            numbers = [some_number(source) for _ in range(source.randint(1, 9))]
            self.assertEqual(read(written("numbers", numbers)), ("numbers", [Ratio(0) + one for one in numbers]))
            root = some_root(source)
            self.assertEqual(read(written("root", root)), ("root", root))
            state = first_state(root)
            for _ in range(3):
                self.assertEqual(read(written("state", state)), ("state", state))
                state = state.next()

    def test_great_numbers(self):
        number = Ratio(10 ** 1999 + 1, 10 ** 1998 + 7)
        for sort, value in [("poly", [number, -number]), ("numbers", [number])]:
            self.assertEqual(read(written(sort, value)), (sort, value))

    def test_endless_numbers(self):
        for word in ["1" * 9000, "-" + "1" * 9000, "1/" + "7" * 9000, "1" * 9000 + "/2"]:
            self.check_wrong("poly " + word + "\n", 1)
            self.check_wrong("primes\nat 3 " + word + "\n", 2)

    def test_what_is_no_string(self):
        for value in [None, True, 0, 1, b"poly\n", [], ["poly\n"], ("poly\n",), {}, {"poly\n"}, object(), Ratio(1),
                      str]:
            self.check_wrong(value, 0)

    def test_each_line_with_something_wrong(self):
        for sort, value, text in FORMS:
            lines = text.split("\n")[:-1]
            for at, line in enumerate(lines):
                head = line.split(" ")[0]
                wrong = [" " + line, line + " ", line + " x", line + " -0", line + " 01", line + " 1/1", line + " 2/4",
                         line + " 1/0", line + " +1", line + " 1.0", line + " 1/-2", line + " -1/02", line + " 1//2",
                         line + " 0/3", line + " /2", line + " 1/", line + "  1", line + " 1/2/3", line + " 1-",
                         line + " --1", line + " 1_0", line.upper(), head[:-1] + line[len(head):],
                         head + "s" + line[len(head):],
                         line.replace(" ", "  ", 1) if " " in line else line + " ", ""]
                if sort not in ("numbers", "primes"):
                    wrong.append(line + " 0")
                for one in wrong:
                    changed = lines[:at] + [one] + lines[at + 1:]
                    # another word ahead of the first line may begin another sort
                    if one.split(" ")[0] in ("root", "roots", "states", "first") and one.split(" ")[0] != head:
                        continue
                    self.check_wrong("\n".join(changed) + "\n", at + 1)
                    if one:
                        self.check_wrong("\n".join(lines[:at] + [one]), at + 1)

    def test_lines_that_lack_or_are_too_many(self):
        for sort, _, text in FORMS:
            lines = text.split("\n")[:-1]
            self.check_wrong(text[:-1], len(lines))
            for many in range(len(lines)):
                if sort != "primes" or many < 2:
                    self.check_wrong("".join([line + "\n" for line in lines[:many]]), many + 1)
                    self.check_wrong("".join([line + "\n" for line in lines[:many]]) + "x", many + 1)
            for more in ("\n", "x", "poly\n", "first 1\n", "at", " ", text):
                self.check_wrong(text + more, len(lines) + 1)
            for at in range(len(lines)):
                changed = lines[:at] + [""] + lines[at:]
                self.check_wrong("\n".join(changed) + "\n", at + 1)
        self.check_wrong("primes\nat 3 7\nat 5 9", 3)

    def test_the_first_line(self):
        for text in ["", "\n", " \n", "\n\n", "x\n", "second 1\n", "at 3 7\n", "poly", "polys 1\n", "numbers\n",
                     "primes 3\n", "primes \n", "Poly 1\n", "poly\t1\n", "1\n", "root\n", "root 1\n", "root 1 0\n",
                     "root 1 0 2\n",
                     "root 1 2 1\n", "root 1 0 -1\n", "root 0 0 0 1\n", "root 0 1 0 0 0 0 0 0 0 0 1\n",
                     "state\n",
                     "state 1 0 2\nfirst\nsecond 1\n", "state 1 2 1\nfirst\nsecond 1\n", "root 1 0 1 0\n", "poly 0\n",
                     "poly 1 0\n", "poly" + " 1" * 62 + "\n", "numbers" + " 1" * 62 + "\n", "first" + " 1" * 62 + "\n",
                     "first 0\nsecond 1\n", "first 1 0\nsecond 1\n", "poly 1,2\n", "poly 1 /2\n", "poly -\n",
                     "pair 1\n"]:
            self.check_wrong(text, 1)

    def test_later_lines(self):
        for text, line in [
                ("first 1\n", 2), ("first 1\nfirst 1\n", 2), ("first 1\nsecond 0\n", 2), ("first 1\nsecond", 2),
                ("first 1\nsecond" + " 1" * 62 + "\n", 2), ("first 1\n\nsecond 1\n", 2), ("first\nsecond 1 2/2\n", 2),
                ("state 1 0 1\n", 2), ("state 1 0 1\nsecond 1\n", 2), ("state 1 0 1\nfirst 0\nsecond 1\n", 2),
                ("state 1 0 1\nfirst" + " 0" * 21 + " 1\nsecond 1\n", 2), ("state 1 0 1\nfirst 1\n", 3),
                ("state 1 0 1\nfirst\nsecond\n", 3), ("state 1 0 1\nfirst\nsecond 0 1\n", 3),
                ("state 1 0 1\nfirst 0 1\nsecond 0 1\n", 3), ("state 1 0 1\nfirst 1\nsecond 0 1 0\n", 3),
                ("state 1 0 1\nfirst\nsecond 1", 3), ("state 1 0 1\nfirst\nfirst 1\n", 3),
                ("state 1 0 1\nfirst\nsecond" + " 0" * 21 + " 1\n", 3), ("state 1 0 1\nfirst\nsecond 1\n\n", 4),
                ("primes\n", 2), ("primes\n\n", 2), ("primes\nat 3\n", 2), ("primes\nat 3 7 1\n", 2),
                ("primes\nat 9 1\n", 2),
                ("primes\nat 2 1\n", 2), ("primes\nat 3 1000\n", 2), ("primes\nat 3 -1\n", 2), ("primes\nat 3 07\n", 2),
                ("primes\nat 03 7\n", 2), ("primes\nat 3 7/1\n", 2), ("primes\nat 3  7\n", 2), ("primes\nAt 3 7\n", 2),
                ("primes\nat 10007 1\n", 2), ("primes\nat 3 7\nat 4 1\n", 3), ("primes\nat 3 7\nat 5 9\n\n", 4),
                ("primes\n" + "at 3 7\n" * 25, 26), ("primes\n" + "at 3 7\n" * 24 + "x", 26),
                ("primes\n" + "at 3 7\n" * 24 + "at 3 7", 26), ("primes\n" + "at 3 7\n" * 23 + "at 3 7", 25),
                ("primes\nat 3 7\npoly 1\n", 3), ("poly 1\npoly 1\n", 2), ("root 1 0 1\n\n", 2), ("numbers 1\n ", 2)]:
            self.check_wrong(text, line)

    def test_a_state_of_the_greatest_degree(self):
        text = "state 1 0 1\nfirst" + " 0" * 20 + " 1\nsecond 1\n"
        self.assertEqual(read(text)[1], State(PLUS_ONE, [0] * 20 + [1], [1]))
        # Q of degree 20, which divides D less P P
        second = [-one for one in fracs([-1, 0, -1] + [0] * 17 + [1])]
        self.assertEqual(len(second), 21)
        state = State(PLUS_ONE, [0] * 10 + [1], ratios(second))
        self.assertEqual(read(written("state", state)), ("state", state))
        self.check_wrong(written("state", state).replace("\n", " 0\n", 2), 1)
