"""Facts over the whole program: one Root through all of its parts."""

from rootsround.chains import norm, parts, quotients
from rootsround.claims import contrary, is_claim, is_paper_of, is_true, paper_of
from rootsround.desk import Desk
from rootsround.integrals import integral, is_integral, is_why, why_none
from rootsround.least import half_round, is_least, least_unit, place_of, whole_round
from rootsround.logs import log_head, log_poly
from rootsround.makes import made_by
from rootsround.moves import alike, is_alike, moved_root, scaled_root
from rootsround.powers import power_unit, stands, with_number
from rootsround.primes import keeps, kept_primes
from rootsround.ratios import Ratio
from rootsround.readers import read
from rootsround.reals import between, is_all_real
from rootsround.rests import is_rest_unit, rest_degree, rest_unit, rests_of
from rootsround.signs import root_count
from rootsround.states import first_state
from rootsround.sweeps import greater, is_greater, is_sweep
from rootsround.swings import inner_counts, swings
from rootsround.taken import summed_up, taken_off
from rootsround.texts import written
from rootsround.units import is_unit, unit_number
from rootsround.verdicts import is_never_paper, is_round, never_paper, round_degree, round_unit
from tests.helpers import Checks, ratios, some_poly, source_of
from tests.own import NEVER, mod_degree, own_least, own_norm, root_of, round_roots
from tests.real import real_units


class WholeTest(Checks):
    def test_round_roots(self):
        for root, many, steps, number in round_roots()[::2]:
            with self.subTest(root=root):
                unit = self.check_unit(root, many, steps, number)
                self.check_primes(root, many, unit)
                self.check_integrals(root, unit)
                self.check_made(root, many, unit)
                self.check_claims(root, unit)

    def check_unit(self, root, many, steps, number):
        """The chain, the least unit, powers."""
        p, q, _, _ = own_least(root, many)
        unit = round_unit(root)
        self.assertEqual(unit, (ratios(p), ratios(q)))
        self.assertEqual((round_degree(root), is_round(root), never_paper(root)), (many, True, None))
        self.assertEqual(least_unit(root, 12), unit)
        self.assertEqual(half_round(root, 12), (steps, number))
        self.assertEqual(whole_round(root, 12), steps if number == Ratio(1) else 2 * steps)
        part = parts(root, steps)[-1]
        self.assertEqual(sum(len(whole) - 1 for whole in quotients(root, steps)), many)
        self.assertEqual(place_of(root, part)[1] in (1, -1), True)
        self.assertEqual(norm(root, part[0], part[1]), [number * (-1) ** steps])
        self.assertEqual((is_least(root, unit), place_of(root, unit)), (True, (Ratio(1), 1)))
        state = first_state(root)
        for _ in range(steps):
            state = state.next()
        self.assertEqual(state.second(), [number])
        if 2 * many <= 60:
            squared = power_unit(root, unit, 2)
            self.assertEqual(place_of(root, squared), (Ratio(1), 2))
            own = unit_number(root, unit)
            self.assertEqual(unit_number(root, squared), own * own)
            self.assertTrue(stands(root, squared, own))
            self.assertEqual(unit_number(root, with_number(root, squared, own * 4)), own * 4)
        return unit

    def check_primes(self, root, many, unit):
        """Modulo each prime the least unit's degree, and its rests."""
        for prime in kept_primes(root, 6):
            self.assertTrue(keeps(root, prime))
            self.assertEqual(rest_degree(root, prime), many)
            self.assertEqual(rest_unit(root, prime), (rests_of(unit[0], prime), rests_of(unit[1], prime)))
            self.assertTrue(is_rest_unit(root, prime, rest_unit(root, prime)))

    def check_integrals(self, root, unit):
        """Each polynomial has just one of an integral and a reason."""
        source = source_of(401)
        logs = log_poly(root)
        self.assertEqual(logs, log_head(root, unit))
        self.assertTrue(is_integral(root, logs, ([], 1, unit)))
        for degree in range(0, root.degree + 2):
            poly = some_poly(source, degree)
            taken, left = taken_off(root, poly)
            self.assertEqual(summed_up(root, taken, left), ratios(poly))
            found, reason = integral(root, poly), why_none(root, poly)
            self.assertEqual(found is None, reason is not None)
            self.assertTrue(is_integral(root, poly, found) if reason is None else is_why(root, poly, reason))
            own = summed_up(root, taken, [number * Ratio(-2, 3) for number in logs])
            self.assertEqual(integral(root, own), (taken, Ratio(-2, 3), unit))

    def check_made(self, root, many, unit):
        """The Root made again by its unit, moved, scaled."""
        made, second = made_by(unit[0], unit_number(root, unit))
        self.assertEqual((made, second), (root, unit[1]))
        far = scaled_root(moved_root(root, Ratio(-1, 2), 3), 5)
        self.assertTrue(is_alike(root, far, alike(root, far)))
        self.assertEqual(round_degree(far), many)
        if not is_all_real(root):
            self.assertLess(root_count(root.poly(), None, None), root.degree)
            return
        self.assertEqual(sum(swings(root, unit)), many)
        self.assertEqual([one + 1 for one in inner_counts(root, unit)], swings(root, unit))
        self.assertTrue(is_sweep(root, unit[0], unit_number(root, unit)))
        self.assertEqual(len(between(root)), root.degree + 1)
        other = [unit[0][0] + Ratio(1, 7)] + unit[0][1:]
        self.assertTrue(is_greater(root, unit, other, greater(root, unit, other)))

    def check_claims(self, root, unit):
        """Claims, papers, texts, and a desk with the Root."""
        number = unit_number(root, unit)
        for claim in [("round", root), ("log", root, log_poly(root)), ("unit", root, unit[0], unit[1]),
                      ("alike", root, moved_root(root, 2, 0)), ("keeps", root, kept_primes(root, 1)[0])]:
            self.assertTrue(is_claim(claim) and is_true(claim) and not is_true(contrary(claim)))
            paper = paper_of(claim)
            self.assertEqual(paper is None, claim[0] == "keeps")
            self.assertEqual(is_paper_of(claim, paper), claim[0] != "keeps")
            self.assertFalse(is_paper_of(contrary(claim), paper))
        self.assertEqual(read(written("root", root)), ("root", root))
        self.assertEqual(read(written("pair", unit)), ("pair", unit))
        if is_short(root.poly() + [number]):
            self.check_desk(root, unit, number)

    def check_desk(self, root, unit, number):
        """The Root and its least unit on a desk, and the Root made again."""
        desk = Desk()
        desk.do_all("poly d " + ",".join(str(one) for one in root.poly()), "root r d", "least u r", "first p u",
                    "second q u", "made s p " + str(number))
        self.assertEqual(desk["u"], (root, unit))
        self.assertEqual([desk(line) for line in ("same r s", "norm u", "period r")],
                         ["yes", str(number), str(len(unit[0]) - 1)])
        self.assertEqual(desk("claim k unit r p q"), "k true")
        desk.attach("k", number)
        self.assertTrue(desk.fits("k"))

    def test_roots_that_never_come_round(self):
        for text in NEVER:
            root = root_of(text)
            paper = never_paper(root)
            self.assertTrue(is_never_paper(root, paper))
            self.assertEqual([mod_degree(root, paper[0]), mod_degree(root, paper[2])], [paper[1], paper[3]])
            self.assertEqual([round_degree(root), round_unit(root), log_poly(root), least_unit(root, 12)], [None] * 4)
            poly = [0] * (root.half - 1) + [2]
            self.assertIsNone(integral(root, poly))
            self.assertEqual(why_none(root, poly), ("never", paper))
            self.assertEqual(integral(root, summed_up(root, [3, 1], [])), (ratios([3, 1]), Ratio(0), None))
            self.assertTrue(is_true(("never", root)) and is_true(("nolog", root, poly)))
            self.assertTrue(is_paper_of(("never", moved_root(root, 1, 0)), paper))

    def test_all_real_roots(self):
        for root, unit, number in real_units():
            self.assertTrue(is_unit(root, unit) and is_all_real(root) and is_round(root))
            self.assertEqual(own_norm(root, unit[0], unit[1]), [number])
            degree = round_degree(root)
            self.assertEqual((len(unit[0]) - 1) % degree, 0)
            self.assertEqual(sum(swings(root, round_unit(root))), degree)
            times = place_of(root, unit)[1]
            self.assertEqual(swings(root, unit), [abs(times) * one for one in swings(root, round_unit(root))])


def is_short(numbers):
    """Whether the numbers may stand in commands."""
    return all(abs(number.top) < 10 ** 6 and number.bottom < 10 ** 6 for number in numbers)
