"""The interface: each name is defined in its own file, with its parameters, and methods in the class itself."""

import ast
import os
import unittest

FOLDER = os.path.join(os.path.dirname(os.path.dirname(os.path.abspath(__file__))), "rootsround")

LISTED = {
    "basics": ["is_integer(value)", "is_count(value)"],
    "ratios": [
        "is_number(value)", "Ratio.__init__(self, top, bottom)", "Ratio.top(self)", "Ratio.bottom(self)",
        "Ratio.sign(self)", "Ratio.is_whole(self)", "Ratio.__add__(self, other)", "Ratio.__radd__(self, other)",
        "Ratio.__sub__(self, other)", "Ratio.__rsub__(self, other)", "Ratio.__mul__(self, other)",
        "Ratio.__rmul__(self, other)", "Ratio.__neg__(self)", "Ratio.over(self, other)", "Ratio.size(self)",
        "Ratio.is_below(self, other)", "Ratio.is_at_most(self, other)", "Ratio.__eq__(self, other)",
        "Ratio.total(cls, numbers)", "Ratio.__str__(self)", "Ratio.__repr__(self)"],
    "polys": [
        "is_poly(value)", "told(poly)", "degree(poly)", "plus(poly, other)", "minus(poly, other)",
        "scaled(poly, number)", "derived(poly)", "times(poly, other)", "put_in(poly, other)", "worth(poly, number)",
        "divided(poly, other)"],
    "parts": [
        "common(poly, other)", "shares(poly, other)", "is_shares(poly, other, value)", "square_part(poly)",
        "odd_part(poly)", "has_square(poly)"],
    "signs": ["root_count(poly, low, high)", "fences(poly)", "is_fences(poly, value)"],
    "roots": [
        "Root.__init__(self, poly)", "Root.degree(self)", "Root.half(self)", "Root.poly(self)", "Root.nearest(self)",
        "Root.rest(self)", "Root.__eq__(self, other)", "Root.__repr__(self)"],
    "series": ["written(root, many)", "near(root, poly)"],
    "moves": [
        "moved_root(root, first, second)", "scaled_root(root, number)", "alike(root, other)",
        "is_alike(root, other, value)"],
    "states": [
        "State.__init__(self, root, first, second)", "State.root(self)", "State.first(self)", "State.second(self)",
        "State.whole(self)", "State.next(self)", "State.back(self)", "State.is_reduced(self)",
        "State.__eq__(self, other)", "State.__repr__(self)", "first_state(root)"],
    "chains": ["quotients(root, many)", "states(root, many)", "parts(root, many)", "norm(root, first, second)"],
    "best": ["part_of(root, first, second)", "led(state)"],
    "units": [
        "is_unit(root, value)", "unit_number(root, unit)", "contrary(root, unit)",
        "times_unit(root, unit, other_unit)"],
    "powers": ["power_unit(root, unit, many)", "stands(root, unit, number)", "with_number(root, unit, number)"],
    "least": [
        "least_unit(root, most)", "half_round(root, most)", "whole_round(root, most)", "is_least(root, unit)",
        "place_of(root, unit)"],
    "primes": ["is_prime(value)", "keeps(root, prime)", "kept_primes(root, many)"],
    "rests": [
        "rests_of(poly, prime)", "rest_degree(root, prime)", "rest_unit(root, prime)",
        "is_rest_unit(root, prime, value)"],
    "verdicts": [
        "round_degree(root)", "is_round(root)", "round_unit(root)", "never_paper(root)", "is_never_paper(root, value)"],
    "taken": ["taken_off(root, poly)", "summed_up(root, first, second)"],
    "logs": ["log_poly(root)", "log_head(root, unit)"],
    "integrals": [
        "integral(root, poly)", "why_none(root, poly)", "is_integral(root, poly, value)", "is_why(root, poly, value)"],
    "reals": ["is_all_real(root)", "stretch_of(root, number)", "between(root)"],
    "swings": ["swings(root, unit)", "inner_counts(root, unit)", "turns(root, unit, number)"],
    "sweeps": [
        "is_sweep(root, poly, number)", "greater(root, unit, poly)", "is_greater(root, unit, poly, value)"],
    "makes": ["made_by(poly, number)", "line_root(first, second)"],
    "pairs": ["made_pair(first, second)"],
    "inner": ["put_root(root, poly)", "unit_put(root, unit, poly)", "told_root(many)"],
    "texts": ["sorts()", "is_form(sort, value)", "written(sort, value)"],
    "readers": ["read(text)"],
    "claims": [
        "words()", "is_claim(value)", "is_true(claim)", "contrary(claim)", "paper_of(claim)",
        "is_paper_of(claim, value)"],
    "commands": ["is_name(value)", "is_command(value)", "is_deed(value)"],
    "desk": [
        "Desk.__init__(self)", "Desk.names(self)", "Desk.labels(self)", "Desk.__len__(self)",
        "Desk.__getitem__(self, at)", "Desk.__contains__(self, x)", "Desk.claim_of(self, label)",
        "Desk.do(self, command)", "Desk.__call__(self, command)", "Desk.do_all(self, *commands)",
        "Desk.attempt(self, *commands)", "Desk.attach(self, label, paper)", "Desk.fits(self, label)",
        "Desk.lines(self)", "Desk.copy(self)", "Desk.again(cls, lines)", "Trial.__init__(self, desk)",
        "Trial.__enter__(self)", "Trial.__exit__(self, kind, value, trace)", "tried(desk, action)"],
}
PROPERTIES = [
    "Ratio.top", "Ratio.bottom", "Ratio.sign", "Ratio.is_whole", "Root.degree", "Root.half", "State.is_reduced",
    "Desk.names", "Desk.labels"]
CLASS_METHODS = ["Ratio.total", "Desk.again"]


def heads(name):
    """The functions and methods of a file: their heads, and the decorators by their names."""
    with open(os.path.join(FOLDER, name + ".py"), encoding="utf-8") as file:
        tree = ast.parse(file.read())
    found = {}
    for node in tree.body:
        inside = [("", node)] if isinstance(node, ast.FunctionDef) else []
        if isinstance(node, ast.ClassDef):
            inside = [(node.name + ".", one) for one in node.body if isinstance(one, ast.FunctionDef)]
        for ahead, one in inside:
            stars = ["*" + one.args.vararg.arg] if one.args.vararg else []
            told = ", ".join([part.arg for part in one.args.args] + stars)
            found[f"{ahead}{one.name}({told})"] = [part.id for part in one.decorator_list]
    return found


class InterfaceTest(unittest.TestCase):
    def test_each_name_stands_in_its_file(self):
        for name, listed in LISTED.items():
            found = heads(name)
            for head in listed:
                self.assertIn(head, found, name)

    def test_properties_and_class_methods(self):
        for name in LISTED:
            for head, decorators in heads(name).items():
                path = head.partition("(")[0]
                if "." not in path:
                    continue
                wanted = ["property"] if path in PROPERTIES else ["classmethod"] if path in CLASS_METHODS else []
                self.assertEqual(decorators, wanted, head)

    def test_there_is_one_package_and_no_test_in_it(self):
        for name in os.listdir(FOLDER):
            self.assertFalse(name.startswith("test"), name)
