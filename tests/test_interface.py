"""The interface: each name stands in its own file, each method in its own class, with the listed arguments."""

import importlib
import inspect
import unittest

FUNCTIONS = {
    "fraction": {"sum_of": "(fractions)", "product_of": "(fractions)"},
    "counting": {"factorial": "(n)", "binomial": "(n, k)", "rising": "(x, count)"},
    "poly": {"from_fractions": "(fractions)"},
    "division": {"divide": "(p, q)", "exact": "(p, q)", "monic": "(p)", "common_divisor": "(p, q)",
                 "common_divisor_of": "(polys)"},
    "margin": {"settled_from": "(p, *, start)", "roots_between": "(p, *, low, high)", "roots_from": "(p, *, start)",
               "free_from": "(p, *, start)"},
    "poly2": {"product_of2": "(factors)"},
    "matrix": {"dot": "(first, second)", "apply": "(rows, vector)", "combine": "(vector, rows, width)",
               "multiply": "(left, right, width)", "identity": "(size)"},
    "systems": {"solve": "(rows, right, width)", "kernel": "(rows, width)"},
    "polysystems": {"poly_kernel": "(rows, width)"},
    "termbuild": {"power_term": "(base, start)", "factorial_term": "(offset, start)", "quotient_term": "(y, start)",
                  "difference_term": "(term)"},
    "distance": {"distances": "(a, b)", "coprime_certificate": "(a, b)"},
    "normalform": {"normal_form": "(ratio)"},
    "degree": {"degree_bound": "(a, b, c)"},
    "running": {"running_sum": "(ratio)", "closed_value": "(term, y, last)"},
    "telescoping": {"column": "(binomial_sum, order, j)", "forward": "(binomial_sum, order)",
                    "backward": "(binomial_sum)", "certificate_degree": "(binomial_sum, order)",
                    "equations": "(binomial_sum, order)"},
    "definite": {"recurrence": "(binomial_sum, *, order)", "least_recurrence": "(binomial_sum)"},
    "row": {"needed": "(operator)"},
    "rowbuild": {"row_of_sum": "(binomial_sum)", "row_of_term": "(term)", "add_rows": "(first, second)",
                 "multiply_rows": "(first, second)", "scale_row": "(row, factor)", "partial_sums": "(row)",
                 "move_row": "(row)"},
    "compare": {"common_multiple": "(first, second)", "compare_rows": "(first, second)",
                "compare_sums": "(first, second)"},
    "checker": {"accepts_running": "(ratio, certificate)", "accepts_recurrence": "(binomial_sum, certificate)",
                "accepts_rows": "(first, second, certificate)"},
    "writing": {"write_certificate": "(certificate)", "write_thing": "(thing)"},
    "reading": {"read_certificate": "(text)", "read_thing": "(text)"},
    "ledger": {"write_book": "(book)", "read_book": "(text)"},
}
RING = {"__add__": "(self, other)", "__sub__": "(self, other)", "__mul__": "(self, other)", "__neg__": "(self)",
        "__eq__": "(self, other)"}
CLASSES = {
    ("fraction", "Fraction"): {
        **RING,
        "__init__": "(self, num, den=1)", "over": "(self, other)", "power": "(self, exponent)", "sign": "(self)",
        "floor": "(self)", "is_zero": property, "is_whole": property},
    ("poly", "Poly"): {
        **RING,
        "__init__": "(self, coefs, den=1)", "coefficient": "(self, index)", "at": "(self, k)", "value": "(self, x)",
        "scaled": "(self, factor)", "shifted": "(self, step)", "power": "(self, exponent)", "degree": property,
        "is_zero": property, "lead": property, "constant": staticmethod, "line": staticmethod},
    ("poly2", "Poly2"): {
        **RING,
        "__init__": "(self, rows)", "row": "(self, index)", "value_at": "(self, n, k)", "at_n": "(self, n)",
        "at_k": "(self, k)", "moved": "(self, by_n, by_k)", "power": "(self, exponent)", "degree_n": property,
        "degree_k": property, "is_zero": property, "in_n": staticmethod, "in_k": staticmethod, "line": staticmethod,
        "of_sum": staticmethod},
    ("quotient", "Quotient"): {
        **RING,
        "__init__": "(self, num, den)", "over": "(self, other)", "shifted": "(self, step)", "at": "(self, k)",
        "is_zero": property, "whole": staticmethod},
    ("term", "Term"): {
        "__init__": "(self, start, first, ratio)", "__eq__": "(self, other)", "value": "(self, k)",
        "times": "(self, other)", "over": "(self, other)", "scaled": "(self, factor)", "later": "(self, start)",
        "partial_sum": "(self, last)"},
    ("binomialsum", "BinomialSum"): {
        "__init__": "(self, weight, base, *, choose, rise, central)", "__eq__": "(self, other)",
        "summand": "(self, n, k)", "value": "(self, n)", "factors": property},
    ("operator", "Operator"): {
        **RING,
        "__init__": "(self, coefs)", "apply_at": "(self, values, n)", "order": property, "is_zero": property,
        "lead": property, "shift": staticmethod},
    ("row", "Row"): {
        "__init__": "(self, operator, initial)", "__eq__": "(self, other)", "value": "(self, n)",
        "prefix": "(self, count)", "since": property},
    ("book", "Book"): {
        "__init__": "(self)", "add": "(self, name, thing)", "names": "(self)", "thing": "(self, name)",
        "offer_running": "(self, name, certificate)", "offer_recurrence": "(self, name, certificate)",
        "offer_same": "(self, first, second, certificate)", "claims": "(self)", "closed": "(self, name)",
        "same": "(self, first, second)", "value": "(self, name, index)", "audit": "(self)"},
}
STATIC = {("poly", "Poly", "constant"): "(x)", ("poly", "Poly", "line"): "(slope, offset)",
          ("poly2", "Poly2", "in_n"): "(p)", ("poly2", "Poly2", "in_k"): "(p)",
          ("poly2", "Poly2", "line"): "(n_factor, k_factor, offset)", ("poly2", "Poly2", "of_sum"): "(p)",
          ("quotient", "Quotient", "whole"): "(p)", ("operator", "Operator", "shift"): "(steps)"}


class InterfaceTest(unittest.TestCase):
    def test_functions(self):
        for file, functions in FUNCTIONS.items():
            module = importlib.import_module(f"certsums.{file}")
            for name, signature in functions.items():
                function = vars(module)[name]
                self.assertEqual(function.__module__, f"certsums.{file}")
                self.assertEqual(str(inspect.signature(function)), signature)

    def test_classes(self):
        for (file, name), members in CLASSES.items():
            kind = vars(importlib.import_module(f"certsums.{file}"))[name]
            self.assertEqual(kind.__module__, f"certsums.{file}")
            for member, form in members.items():
                found = vars(kind)[member]
                if isinstance(form, str):
                    self.assertEqual(str(inspect.signature(found)), form, member)
                else:
                    self.assertIs(type(found), form, member)

    def test_static_methods(self):
        for (file, name, member), signature in STATIC.items():
            kind = vars(importlib.import_module(f"certsums.{file}"))[name]
            self.assertEqual(str(inspect.signature(getattr(kind, member))), signature)


if __name__ == "__main__":
    unittest.main()
