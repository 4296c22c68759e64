"""rootsround.roots: Roots, their nearest and their rests."""

from rootsround.errors import HasSquare, InvalidPoly, NoSquareHead, WrongDegree
from rootsround.polys import degree, minus, plus, times, told
from rootsround.ratios import Ratio
from rootsround.roots import Root
from tests.helpers import NOT_POLYS, Checks, some_root, source_of

NOUGHTS = [[], (), [0], (0, Ratio(0)), [0] * 61]


class RootTest(Checks):
    def test_degrees(self):
        for poly, wanted in [([-1, 0, 1], 2), ([1, 0, 0, 0, 1], 4), ([1, 0, 0, 0, 0, 0, 4], 6),
                             ([2, 0, 0, 0, 0, 0, 0, 0, Ratio(9, 4)], 8), ([-1, 0, 1] + [0] * 58, 2)]:
            for made in (Root(poly), Root(poly=tuple(poly))):
                self.assertEqual((made.degree, made.half), (wanted, wanted // 2))
                self.assertIs(made.degree.__class__, int)
                self.assertIs(made.half.__class__, int)

    def test_poly_is_told(self):
        made = Root((2, Ratio(4, 2), Ratio(9, 9), 0, Ratio(0)))
        self.assertEqual(made.poly(), [Ratio(2), Ratio(2), Ratio(1)])
        self.assert_told(made.poly())

    def test_nearest_and_rest(self):
        source = source_of(31)
        for _ in range(120):
            root = some_root(source)
            near, rest = root.nearest(), root.rest()
            self.assert_told(near)
            self.assert_told(rest)
            self.assertEqual(degree(near), root.half)
            self.assertEqual(near[-1].sign, 1)
            self.assertEqual(near[-1] * near[-1], root.poly()[-1])
            self.assertEqual(minus(root.poly(), times(near, near)), rest)
            self.assertLess(degree(rest), root.half)
            self.assertGreaterEqual(degree(rest), 0)

    def test_the_nearest_is_the_one_that_was_squared(self):
        source = source_of(32)
        for _ in range(60):
            half = source.randint(1, 4)
            near = [source.randint(-5, 5) for _ in range(half)] + [Ratio(source.randint(1, 4), source.randint(1, 3))]
            rest = [source.randint(-5, 5) for _ in range(half)]
            poly = plus(times(near, near), rest)
            try:
                root = Root(poly)
            except HasSquare:
                continue
            self.assertEqual(root.nearest(), told(near))
            self.assertEqual(root.rest(), told(rest))

    def test_examples_of_nearest(self):
        for poly, near, rest in [([-7, 0, 1], [0, 1], [-7]), ([0, 1, 0, 0, 1], [0, 0, 1], [0, 1]),
                                 ([1, 1, 1], [Ratio(1, 2), 1], [Ratio(3, 4)]),
                                 ([3, 0, Ratio(1, 4)], [0, Ratio(1, 2)], [3])]:
            self.assertEqual((Root(poly).nearest(), Root(poly).rest()), (told(near), told(rest)))

    def test_wrong_degrees(self):
        for poly in NOUGHTS + [[1], [4], [1, 2], [1, 2, 0, 5], [0, 1, 0, 0, 0, 1], [0, 1] + [0] * 5 + [1],
                               [1] + [0] * 8 + [1], [1] + [0] * 9 + [1], [1] * 61, [2] + [0] * 60, [1] * 10, [1] * 11]:
            self.assert_error(WrongDegree, {}, Root, poly)

    def test_heads_without_square_root(self):
        for head in [2, 3, -1, -4, Ratio(1, 2), Ratio(4, 3), Ratio(3, 4), Ratio(-9, 4), 8, 999999, Ratio(2, 8) * 2,
                     10 ** 40 + 1]:
            for many in (2, 4, 6, 8):
                self.assert_error(NoSquareHead, {}, Root, [1] + [0] * (many - 1) + [head])

    def test_heads_with_square_root(self):
        for side in [1, 2, Ratio(1, 2), Ratio(5, 3), 999, 10 ** 30 + 7, Ratio(10 ** 25 + 9, 10 ** 24 + 1)]:
            for many in (2, 4, 6, 8):
                head = Ratio(1) * side * side
                self.assertEqual(Root([1] + [0] * (many - 1) + [head]).nearest()[-1], Ratio(1) * side)

    def test_square_parts(self):
        for poly in [[1, 2, 1], [0, 0, 1], [0, 0, 1, 0, 1], [4, 0, -4, 0, 1], times([1, 1, 1], times([2, 3], [2, 3])),
                     times([0, 0, 1], [1, 0, 0, 0, 1]), times(times([1, 0, 2], [1, 0, 2]), [1, 0, 0, 0, 1])]:
            poly = times(poly, [poly[-1]])
            self.assert_error(HasSquare, {}, Root, poly)

    def test_which_error_first(self):
        self.assert_error(WrongDegree, {}, Root, [0, 0, 0, 2])
        self.assert_error(WrongDegree, {}, Root, [1, 2, 1, 0, 0, 0, 0, 0, 0, 0, 2])
        self.assert_error(NoSquareHead, {}, Root, [2, 4, 2])
        self.assert_error(NoSquareHead, {}, Root, [0, 0, -1])
        self.assert_refuses(Root, {"poly": [1, 0, 1]}, "poly", InvalidPoly, NOT_POLYS)

    def test_objects_never_change(self):
        given = [1, 0, Ratio(1)]
        root = Root(given)
        given[0] = 5
        given.append(7)
        for method in (root.poly, root.nearest, root.rest):
            kept = repr(method())
            method().append("spoiled")
            method()[0] = "spoiled"
            self.assertEqual(repr(method()), kept)
        self.assertEqual(root, Root([1, 0, 1]))
        for name in ("degree", "half"):
            with self.assertRaises(AttributeError):
                setattr(root, name, 3)

    def test_equal(self):
        root = Root([1, 0, 4])
        for other in [Root([1, 0, 4]), Root((Ratio(2, 2), 0, Ratio(8, 2), 0, 0))]:
            self.assert_bool(root == other, True)
            self.assert_bool(root != other, False)
        for other in [Root([1, 0, 1]), Root([-1, 0, 4]), Root([1, 0, 0, 0, 4]), [1, 0, 4], root.poly(), None, 1, "x"]:
            self.assert_bool(root == other, False)
            self.assert_bool(other == root, False)
            self.assert_bool(root != other, True)

    def test_repr(self):
        root = Root([1, 0, 1, 0])
        self.assertEqual(repr(root), "Root([Ratio(1, 1), Ratio(0, 1), Ratio(1, 1)])")
        self.assertEqual(eval(repr(root)), root)
        self.assertEqual(repr(Root([Ratio(1, 3), -2, Ratio(1, 4)])),
                         "Root([Ratio(1, 3), Ratio(-2, 1), Ratio(1, 4)])")
