"""Reading a budget and a term: what is a core text, and what its nodes are refused for."""

import unittest

from tests.helper import TAKEN_WORDS, TermCase, ask, base, hold, last, run, unit, value, world


def sum_of_ones(count):
    """A term of 2 * count - 1 nodes."""
    if count == 1:
        return "1"
    return f"(+ {sum_of_ones(count // 2)} {sum_of_ones(count - count // 2)})"


def nested(depth):
    """A term whose deepest node has that depth."""
    return "(^ " * (depth - 1) + "2" + " 1)" * (depth - 1)


class BudgetTest(unittest.TestCase):
    def test_from_0_to_1000(self):
        for budget, answer in [(0, "1"), (1, "1"), (1000, "1"), (-1, -1), (1001, -1), (10 ** 18, -1), (-10 ** 18, -1)]:
            with self.subTest(budget):
                self.assertEqual(value("1", budget), answer)

    def test_ahead_of_all_else(self):
        for term in ["", "x", "1[m]", "1[m", "(/ 1 0)"]:
            with self.subTest(term):
                self.assertEqual(value(term, -1), -1)
                self.assertEqual(value(term, 1001), -1)


class TokenTest(TermCase):
    def test_blanks(self):
        self.check([("  1  ", "1"), ("(+1 2)", "3"), ("( + 1 2 )", "3"), ("(  -   1   2  )", "-1"), ("", -4), (" ", -4),
                    ("1 2", -4), ("(+ 1\n2)", -4), ("(+ 1\t2)", -4), ("(fn x x)", "fn"), ("(fnx x)", -5),
                    ("((fn x x)5)", "5"), ("(let x 5x)", "5"), ("(let x 5(+x x))", "10"), ("(pair true false)", "(true, false)")])

    def test_number_texts(self):
        self.check([("0", "0"), ("007", "7"), ("1/2", "1/2"), ("4/6", "2/3"), ("0.50", "1/2"), ("5.0", "5"), ("5.000", "5"),
                    ("0/7", "0"), ("-3", "-3"), ("-0", "0"), ("-4/6", "-2/3"), ("-0.25", "-1/4"), ("00/01", "0"),
                    ("1/0", -4), ("1/000", -4), ("0/0", -4), ("1.", -4), (".5", -4), ("1/", -4), ("/2", -4), ("1..2", -4),
                    ("1/2/3", -4), ("1.2.3", -4), ("1/-2", -4), ("--1", -4), ("+1", -4), ("- 1", -4), ("1e5", -4),
                    ("1_0", -4), ("1,0", -4)])

    def test_a_number_ends_where_its_text_does(self):
        self.check([("(/ 1/2 3)", "1/6"), ("(/ 1/2/3)", -4), ("(1/ 2)", -4), ("(* 2-3)", "-6"), ("(- 2-3)", "5"),
                    ("(-2 3)", 6), ("(-2-3)", 6), ("(-(+1 2)3)", "0"), ("(- -2 3)", "-5"), ("(-x 1)", -5), ("(let x 3(-x 1))", "2"),
                    ("(1 .5)", -4), ("(pair 1.5 1)", "(3/2, 1)"), ("(2x)", -5), ("(2 true)", 6), ("(2true)", 6)])

    def test_twelve_digits(self):
        self.check([("999999999999", "9" * 12), ("-999999999999", "-" + "9" * 12), ("1000000000000", -4),
                    ("0000000000001", -4), ("1/999999999999", "1/" + "9" * 12), ("1/0000000000001", -4),
                    ("1/1000000000000", -4), ("000000000001", "1"), ("5.0000000000000", -4), ("5.000000000000", "5"),
                    ("0.000000000001", -4), ("0.000000000002", "1/500000000000"), ("0.123456789012", "30864197253/250000000000"),
                    ("0.1234567890123", -4), ("999999999999.5", -4), ("499999999999.5", "999999999999/2"),
                    ("100000000000.00", "100000000000"), ("999999999999.25", -4), ("200000000000.1", -4),
                    ("99999999999.9", "999999999999/10"), ("999999999999/999999999999", "1")])

    def test_words(self):
        self.check([("(let abcdefghijkl 1 abcdefghijkl)", "1"), ("(let abcdefghijklm 1 abcdefghijklm)", -4),
                    ("(let a_1 1 a_1)", "1"), ("(let _a 1 _a)", -4), ("A", -4), ("(let aB 1 aB)", -4), ("abcdefghijklm", -4),
                    ("abcdefghijkl", -5), ("(let xx 1 x x)", -4)])

    def test_other_signs(self):
        for sign in "!\"#$%&',.:;>?@[\\]_`{|}~ABCXYZ":
            with self.subTest(sign):
                self.assertEqual(value(sign), -4)
                self.assertEqual(value("1 " + sign), -4)
                self.assertEqual(value("(+ 1 2" + sign + ")"), -4)
        for byte in [0, 9, 10, 13, 31, 127, 128, 160, 178, 185, 225, 255]:
            with self.subTest(byte):
                self.assertEqual(value([byte]), -4)
                self.assertEqual(value([49, byte]), -4)

    def test_two_thousand_bytes(self):
        self.assertEqual(value("1".ljust(2000)), "1")
        self.assertEqual(value("1".ljust(2001)), -4)
        self.assertEqual(value("1".rjust(2000)), "1")
        self.assertEqual(value(" " * 10000), -4)
        self.assertEqual(value("(" * 10000), -4)
        self.assertEqual(value("(" * 2000), -4)
        self.assertEqual(value("1" * 2000), -4)


class MeasureTest(TermCase):
    def check_measured(self, rows):
        self.check(rows, before=[base("m"), base("s"), world("m", "2"), world("s", "5"), unit("km", "1000 m")])

    def test_measures(self):
        self.check_measured([("3[m]", "6"), ("3[1]", "3"), ("3[m^2]", "12"), ("3[m/s]", "6/5"), ("3[m.s]", "30"), ("3[1/s]", "3/5"),
                    ("-1/2[m^-1]", "-1/4"), ("1[km^-2]", "1/4000000"), ("0.5[m/s^2.m]", "2/25"), ("0[m]", "0"), ("1[m^0]", "1"),
                    ("1[m/s^-1]", "10"), ("1[m^06]", "64"), ("1[m/m]", "1"), ("(pair 3[m]4[s])", "(6, 20)"), ("(+1[m]1[m])", "4")])

    def test_no_measure_texts(self):
        self.check_measured([(f"3[{measure}]", -4) for measure in [
            "", " ", "m ", " m", "m s", "2", "m.", "m/", "/m", ".m", "m..s", "m^", "m^-", "m^100", "m^--1", "m^+1", "M", "1^2",
            "m^x", "2m", "m2.5", "m^1.5", "[m]", "m[", "(m)", "m*s", "abcdefghijklm", "m?", "m-1", "_m", "11", "m//s", "m^1/2"]])
        self.check_measured([("3 [m]", -4), ("3[m", -4), ("3[m)", -4), ("3]", -4), ("[m]", -4), ("x[m]", -4), ("3[m][m]", -4),
                    ("true[m]", -4), ("3[", -4), ("(+ 3[m 1)", -4), ("3[m]]", -4), ([51, 91, 200, 93], -4)])

    def test_unknown_measures(self):
        self.check_measured([("1[x]", -6), ("1[m.x]", -6), ("1[x^0]", -6), ("1[k]", -6), ("1[kmm]", -6), ("(+ 1 2[abcdefghijkl])", -6)])

    def test_twenty_factors(self):
        self.check_measured([("1[" + ".".join(["1"] * 20) + "]", "1"), ("1[" + ".".join(["1"] * 21) + "]", -7),
                    ("1[" + "/".join(["m"] * 20) + "]", "1/262144"), ("1[" + "/".join(["m"] * 21) + "]", -7),
                    ("1[" + ".".join(["1"] * 21 + ["x"]) + "]", -6)])

    def test_powers_at_99(self):
        self.check_measured([("1[m^99]", str(2 ** 99)), ("1[m^-99]", f"1/{2 ** 99}"), ("1[m^99.m]", -7), ("1[m^-99/m]", -7),
                    ("1[m^99.m^99/m^99]", str(2 ** 99)), ("1[m^99.m/m]", str(2 ** 99)), ("0[m^99.m]", -7)])

    def test_ratios_at_10_to_the_40(self):
        before = [unit("big", "1" + "0" * 39 + " 1"), unit("ten", "10 1"), unit("two", "2 1")]
        rows = [("1[big]", "1" + "0" * 39), ("1[big.ten]", -7), ("1[big.two^3]", "8" + "0" * 39), ("1[big.two^4]", -7),
                ("1[1/big]", "1/1" + "0" * 39), ("1[1/big/ten]", -7), ("1[1/big/two^3]", "1/8" + "0" * 39),
                ("1[1/big/two^4]", -7), ("999[big]", "999" + "0" * 39), ("1[big^99/big^98]", "1" + "0" * 39),
                ("1[big^2]", -7), ("0[big^2]", -7)]
        self.check(rows, before=before)


class FormTest(TermCase):
    def test_too_few_or_too_many_in_a_form(self):
        forms = {"fn": "x 1", "rec": "f x 1", "let": "x 1 2", "if": "true 1 2", "pair": "1 2", "fst": "(pair 1 2)",
                 "snd": "(pair 1 2)", "cons": "1 nil", "case": "nil 1 h t 2", "fold": "1 2 nil", "floor": "7 2", "rest": "7 2",
                 "root": "4", "+": "1 2", "-": "1 2", "*": "1 2", "/": "1 2", "^": "2 3", "<": "1 2", "=": "1 2", "": "1 2"}
        for head, inside in forms.items():
            with self.subTest(head):
                self.assertNotEqual(value(f"({head} {inside})"), -4)
                self.assertEqual(value(f"({head} {inside} 1)"), -4)
                self.assertEqual(value(f"({head} {inside}"), -4)
                self.assertEqual(value(f"{head} {inside})"), -4)
                self.assertEqual(value(f"({head} {inside}))"), -4)
                self.assertEqual(value(f"({head})"), -4)
                self.assertEqual(value(f"({head} )"), -4)
                if inside.count(" ") > 0 and head not in ("fst", "snd"):
                    self.assertEqual(value(f"({head} {inside.rpartition(' ')[0]})"), -4)

    def test_no_terms(self):
        self.check([("()", -4), ("(1)", -4), ("((1 2))", -4), (")", -4), ("(", -4), ("+", -4), ("-", -4), ("(1 + 2)", -4),
                    ("(1 2 3)", -4), ("fn", -4), ("(x fn)", -4), ("(fn fn 1)", -4), ("(+ + 1)", -4), ("1 1", -4), ("1)", -4)])

    def test_taken_words_are_no_names(self):
        self.assertEqual(len(TAKEN_WORDS), 31)
        for word in TAKEN_WORDS:
            with self.subTest(word):
                self.assertEqual(value(f"(fn {word} 1)"), -4)
                self.assertEqual(value(f"(rec f {word} 1)"), -4)
                self.assertEqual(value(f"(rec {word} x 1)"), -4)
                self.assertEqual(value(f"(let {word} 1 1)"), -4)
                self.assertEqual(value(f"(case nil 1 {word} t 1)"), -4)
                self.assertEqual(value(f"(case nil 1 h {word} 1)"), -4)
                if word not in ("true", "false", "nil"):
                    self.assertEqual(value(word), -4)
                    self.assertEqual(value(f"(pair {word} 1)"), -4)

    def test_names_in_the_place_of_names_alone(self):
        self.check([("(fn 1 1)", -4), ("(fn (x) 1)", -4), ("(let 1 1 1)", -4), ("(rec f 1 1)", -4), ("(case nil 1 h 1 t)", -4),
                    ("(case nil 1 2 h t)", -4), ("(fn + 1)", -4)])

    def test_words_that_are_no_forms_begin_no_forms(self):
        self.check([("(def 1)", -4), ("(num 1)", -4), ("(true 1)", 6), ("(nil nil)", 6), ("(apply 1)", -5), ("(name 1)", -5),
                    ("(number 1)", -5), ("(call 1)", -5)])

    def test_powers(self):
        self.check([("(^ 2 9)", "512"), ("(^ 2 -9)", "1/512"), ("(^ 2 0)", "1"), ("(^ 2 -0)", "1"), ("(^ 2-1)", "1/2"), ("(^2 3)", "8"),
                    ("(^ 2 10)", -4), ("(^ 2 -10)", -4), ("(^ 2 02)", -4), ("(^ 2 2.0)", -4), ("(^ 2 4/2)", -4), ("(^ 2 2[1])", -4),
                    ("(^ 2 - 1)", -4), ("(^ 2 x)", -4), ("(^ 2 (+ 1 1))", -4), ("(^ 2 true)", -4), ("(^ 2 2 2)", -4), ("(^ 2)", -4)])

    def test_three_hundred_nodes(self):
        self.assertEqual(value(sum_of_ones(150)), "150")
        self.assertEqual(value(f"(^ {sum_of_ones(150)} 1)"), "150")
        self.assertEqual(value(f"(+ 1 {sum_of_ones(150)})"), -4)
        self.assertEqual(value(f"(^ (^ {sum_of_ones(150)} 1) 1)"), -4)

    def test_names_and_powers_that_forms_hold_are_no_nodes(self):
        inside = f"(^ {sum_of_ones(148)} 1)"
        self.assertEqual(value(f"(case nil {inside} h t (^ 1 1))"), "148")
        self.assertEqual(value(f"(case nil (^ {inside} 1) h t (^ 1 1))"), -4)
        self.assertEqual(value(f"((rec f x 1) (^ {inside} 1))"), "1")
        self.assertEqual(value(f"((rec f x 1) (^ (^ {inside} 1) 1))"), -4)

    def test_depth_40(self):
        self.assertEqual(value(nested(40)), "2")
        self.assertEqual(value(nested(41)), -4)
        self.assertEqual(value(f"(pair {nested(39)} {nested(39)})"), "(2, 2)")
        self.assertEqual(value(f"(pair 1 {nested(40)})"), -4)
        self.assertEqual(value("(fn x " * 39 + "1" + ")" * 39), "fn")
        self.assertEqual(value("(fn x " * 40 + "1" + ")" * 40), -4)


class NodeTest(TermCase):
    def check_nodes(self, rows):
        self.check(rows, before=[base("m"), unit("u", "m^60")])

    def test_free_names(self):
        self.check_nodes([("x", -5), ("(fn x y)", -5), ("(let x x 1)", -5), ("(let x 1 (pair x y))", -5), ("(case nil h h t 1)", -5),
                    ("(case h 1 h t 1)", -5), ("(case nil t h t 1)", -5), ("(pair (fn x 1) x)", -5), ("(rec f x y)", -5),
                    ("((rec f x 1) f)", -5), ("(if true 1 x)", -5), ("(fold x 1 nil)", -5), ("(pair (let x 1 x) x)", -5)])

    def test_bound_names(self):
        self.check_nodes([("(fn x x)", "fn"), ("(rec f x (f x))", "fn"), ("(let x 1 x)", "1"), ("(case (cons 1 nil) 0 h t (pair h t))", "(1, [])"),
                    ("(let x 1 (fn y (pair x y)))", "fn")])

    def test_the_first_node_counts(self):
        self.check_nodes([("(pair x 1[k])", -5), ("(pair 1[k] x)", -6), ("(pair 1[u.u] 1[k])", -7), ("(pair 1[k] 1[u.u])", -6),
                    ("(pair x 1[u.u])", -5), ("(pair 1[u.u] x)", -7), ("(pair (pair 1 x) 1[k])", -5), ("(pair (pair 1 2) (pair 1[k] x))", -6),
                    ("(case 1[k] x h t 1[u.u])", -6), ("(case nil x h t 1[k])", -5), ("(case nil 1[u.u] h t x)", -7),
                    ("(let y 1[k] x)", -6), ("(let y x 1[k])", -5), ("(fold 1[u.u] x 1[k])", -7), ("(x 1[k])", -5), ("(1[k] x)", -6)])

    def test_one_number_with_two_faults(self):
        self.check_nodes([("1[u.u.k]", -6), ("1[k.u.u]", -6), ("1[k." + ".".join(["1"] * 20) + "]", -6)])

    def test_no_core_text_comes_ahead_of_the_nodes(self):
        self.check_nodes([("(pair x", -4), ("(pair 1[k] 1[m)", -4), ("(pair 1[u.u] 1 2)", -4), ("(pair x 1/0)", -4)])

    def test_the_nodes_come_ahead_of_working_out(self):
        self.check_nodes([("(pair (/ 1 0) x)", -5), ("(if true 1 1[k])", -6), ("(fn x 1[u.u])", -7), ("(1 x)", -5)])

    def test_held_values_are_no_free_names(self):
        self.check([("x", "3/2"), ("(+ x (let x 1 x))", "5/2"), ("((fn x x) 4)", "4"), ("(let x x x)", "3/2"), ("(pair x y)", -5), ("(pair x 1[k])", -6),
                    ("(pair y x)", -5), ("(fn y x)", "fn"), ("(case nil x x y 1)", "3/2")], before=[hold(0, "x", "3/2")])

    def test_a_refused_run_changes_nothing(self):
        calls = [base("m"), world("m", "2"), run(-1, "1"), run(0, "("), run(0, "x"), run(0, "1[k]"), run(0, "1[m^99.m]")]
        self.assertEqual(ask(*calls, run(0, "(/ 1 0)"), run(0, "1[m]"), base("k"), run(0, "3[k]")),
                         [0, 0, -1, -4, -5, -6, -7, 1, "2", 0, "3"])
        self.assertEqual(last(run(5, "((fn x x) 1)"), run(0, "((fn x x) 1)")), 4)


if __name__ == "__main__":
    unittest.main()
