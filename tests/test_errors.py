"""The classes of rootsround.errors: bases, parameters, attributes."""

import inspect

from rootsround import errors
from tests.helpers import Checks

LISTED = """
ValueError: RootError
RootError: InvalidMany(value) InvalidNumber(value) InvalidPoly(value) InvalidPrime(value) InvalidRoot(value)
RootError: InvalidState(value) InvalidUnit(value) DividedByZero() InvalidClaim(value) InvalidCommand(value)
RootError: InvalidForm(value) InvalidLines(position) InvalidPaper(value) InvalidPlace(value) InvalidSort(value)
RootError: InvalidText(line)
LookupError: MissingError
MissingError: UnknownLabel(value) UnknownName(value)
RuntimeError: StateError
StateError: NoughtPoly() WrongDegree() NotKept() BottomNought() CommandFailed(position) HasSquare()
StateError: LabelTaken(label) NameTaken(name) NeverRound() NoSquareHead() NoState() NotApart() NotReal()
StateError: NotReduced() NothingToRedo() NothingToUndo() NumberAlone() UnlikeHeads()
ArithmeticError: LimitError
LimitError: TooMany(what,limit)
"""


def listed():
    """Tuples (base, name, names of the parameters or None)."""
    for line in LISTED.split("\n"):
        base, _, rest = line.partition(":")
        for word in rest.split():
            name, bracket, told = word.rstrip(")").partition("(")
            yield base, name, [part for part in told.split(",") if part] if bracket else None


class ErrorsTest(Checks):
    def test_each_class_has_its_one_direct_base(self):
        for base, name, _ in listed():
            with self.subTest(name=name):
                bases = getattr(errors, name).__bases__
                self.assertEqual([one.__name__ for one in bases], [base])

    def test_nothing_else_is_listed(self):
        names = [name for name, value in vars(errors).items() if inspect.isclass(value)]
        self.assertEqual(sorted(names), sorted([name for _, name, _ in listed()]))

    def test_attributes_by_place_and_by_name(self):
        values = [None, True, 0, "text", [1], (2, [3]), object(), ValueError]
        for _, name, told in listed():
            if told is None:
                continue
            error = getattr(errors, name)
            self.assertEqual(list(inspect.signature(error.__init__).parameters), ["self"] + told)
            self.assertIn("__init__", vars(error))
            for value in values:
                with self.subTest(name=name, value=value):
                    given = [value] * len(told)
                    for made in (error(*given), error(**dict(zip(told, given)))):
                        self.assertEqual(sorted(vars(made)), sorted(told))
                        for part in told:
                            self.assertIs(getattr(made, part), value)
                        self.assertIsInstance(str(made), str)

    def test_two_attributes_are_kept_apart(self):
        made = errors.TooMany("degree", 60)
        self.assertEqual((made.what, made.limit), ("degree", 60))

    def test_errors_are_raised_and_caught_by_their_families(self):
        for family, error in [(ValueError, errors.InvalidPoly([True])), (LookupError, errors.UnknownName("p")),
                              (RuntimeError, errors.NoughtPoly()), (ArithmeticError, errors.TooMany("steps", 600))]:
            with self.assertRaises(family):
                raise error
