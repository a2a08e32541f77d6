"""Held values shown."""

import unittest

from tests.helper import TAKEN_WORDS, TEN_TO_999, ask, base, clear, cost, held, hold, last, list_term, run, unit, world

# Behind these, l is a list of 1980 times the number 1.
LONG_LIST = [hold(0, "add", "(fn r " + "(cons 1 " * 33 + "r" + ")" * 33 + ")"),
             hold(1000, "l", "(fold (fn r (fn e (add (add (add r))))) nil {})".format(list_term(["1"] * 20)))]


class HeldTest(unittest.TestCase):
    def test_each_kind_of_value(self):
        for term, shown in [("5", "5"), ("-6/4", "-3/2"), ("0", "0"), ("(/ 1 -3)", "-1/3"), ("true", "true"), ("(< 2 1)", "false"),
                            ("nil", "[]"), ("(cons 1 (cons true nil))", "[1, true]"),
                            ("(cons nil nil)", "[[]]"), ("(pair 1 (pair nil false))", "(1, ([], false))"), ("(fn x x)", "fn"), ("(rec f x x)", "fn"),
                            ("(cons (pair (fn x x) 1/2) nil)", "[(fn, 1/2)]"), ("(* 1/3 3)", "1"), ("((fn x (cons x nil)) 7)", "[7]")]:
            with self.subTest(term):
                self.assertEqual(ask(hold(5, "x", term), held("x"), run(5, "x"), held("x")), [0, shown, shown, shown])

    def test_measured_numbers_are_shown_as_they_are_in_the_world(self):
        calls = [base("m"), unit("km", "1000 m"), world("m", "2/7"), hold(0, "x", "3[km]"), hold(0, "y", "(pair 1[m] (/ 1[km] 1[m]))"),
                 held("x"), held("y")]
        self.assertEqual(ask(*calls)[-2:], ["6000/7", "(2/7, 1000)"])

    def test_each_name_its_own_value(self):
        calls = [hold(0, "x", "1"), hold(0, "y", "2"), hold(0, "xy", "3"), held("y"), held("xy"), held("x"), held("y")]
        self.assertEqual(ask(*calls), [0, 0, 0, "2", "3", "1", "2"])

    def test_no_value_is_held_under_the_name(self):
        before = [base("m"), unit("km", "m"), hold(0, "x", "(let y 1 (fn z y))")]
        for name in TAKEN_WORDS + ["y", "z", "m", "km", "xx", "", "X", "x ", " x", "1", "(x)", "abcdefghijklm", "x" * 10000, [120, 0],
                                   [255], [0], "hold", "held", "run", "world"]:
            with self.subTest(name):
                self.assertEqual(last(*before, held(name)), -8)
        self.assertEqual(ask(held("x")), [-8])

    def test_what_was_refused_is_not_held(self):
        calls = [hold(0, "x", "(/ 1 0)"), held("x"), hold(0, "x", "("), held("x"), hold(-1, "x", "1"), held("x"), hold(0, "x", "y"), held("x")]
        self.assertEqual(ask(*calls), [1, -8, -4, -8, -1, -8, -5, -8])

    def test_two_thousand_parts(self):
        nineteen = "(cons 1 " * 19 + "l" + ")" * 19
        calls = LONG_LIST + [hold(0, "most", nineteen), hold(0, "more", "(cons 1 most)"), held("l"), held("most"), held("more"),
                             run(0, "more"), cost(0, "more"),
                             run(0, "(case more 0 h t h)"), run(0, "(= 1 (case more 0 h t h))"), run(0, "(case more 0 h t t)"), held("more")]
        ones = "[" + ", ".join(["1"] * 1999) + "]"
        self.assertEqual(ask(*calls), [0] * 4 + ["[" + ", ".join(["1"] * 1980) + "]", ones, -10, -10, (0, 0), "1", "true", ones, -10])

    def test_parts_of_pairs_and_lists(self):
        calls = LONG_LIST + [hold(0, "p", "(pair l l)"), held("p"), run(0, "(case (fst p) 0 h t h)"), hold(0, "q", "(cons l nil)"), held("q"),
                             hold(0, "r", "(pair 1 (pair 2 l))"), held("r"), hold(0, "f", "(fn x p)"), held("f"), run(1, "(f 1)")]
        ones = ", ".join(["1"] * 1980)
        self.assertEqual(ask(*calls)[2:], [0, -10, "1", 0, f"[[{ones}]]", 0, f"(1, (2, [{ones}]))", 0, "fn", -10])

    def test_values_of_shared_parts(self):
        calls = [hold(0, "p0", "(pair 1 1)")] + [hold(0, f"p{k}", f"(pair p{k - 1} p{k - 1})") for k in range(1, 40)]
        found = ask(*calls, *[held(f"p{k}") for k in range(40)], cost(0, "p39"), run(0, "(fst p9)"))
        self.assertEqual(found[:40], [0] * 40)
        self.assertEqual(found[40:42], ["(1, 1)", "((1, 1), (1, 1))"])
        self.assertEqual([isinstance(answer, str) for answer in found[40:80]], [True] * 9 + [False] * 31)
        self.assertEqual(found[49:81], [-10] * 31 + [(0, 0)])
        self.assertEqual(found[81], found[48])

    def test_a_thousand_digits(self):
        far = "1" + "0" * 999
        calls = [hold(0, "x", TEN_TO_999), hold(0, "y", "(* x 10)"), hold(0, "z", "(/ -1 y)"), hold(0, "n", "(- y 1)"), held("x"),
                 held("y"), held("z"), held("n"), run(0, "y"),
                 run(0, "(/ y 10)"), run(0, "(* z y)"), cost(0, "y"), hold(0, "p", "(pair 1 (cons y nil))"), held("p"), run(0, "(fst p)"),
                 hold(0, "w", "(/ y x)"), held("w")]
        self.assertEqual(ask(*calls), [0] * 4 + [far, -10, -10, "9" * 1000, -10, far, "-1", (0, 0), 0, -10, "1", 0, "10"])

    def test_showing_changes_nothing(self):
        calls = [hold(0, "x", "(* 2 (/ 1 2))"), held("x"), held("x"), run(0, "(+ x x)"), held("x"), hold(0, "x", "2"), clear(), held("x")]
        self.assertEqual(ask(*calls), [0, "1", "1", "2", "1", -2, 0, -8])

    def test_very_long_values_are_held_and_let_go(self):
        fold = "(fold (fn r (fn e {})) {} l)"
        for step in ["(cons 1 " * 9 + "r" + ")" * 9, "(cons r nil)", "(pair 1 (pair r 2))", "(fn z r)", "(rec f z (pair r f))"]:
            with self.subTest(step):
                calls = [hold(0, "s", list_term(["1"] * 20)),
                         hold(1000, "l", "(fold (fn a (fn x (fold (fn r (fn e (cons e r))) a s))) nil s)"),
                         hold(1000, "h0", fold.format(step, "nil"))]
                calls += [hold(1000, f"h{k}", fold.format(step, f"h{k - 1}")) for k in range(1, 30)]
                found = ask(*calls, held("h29"), clear(), held("h29"), hold(0, "h0", "1"), held("h0"))
                self.assertEqual(found, [0] * 32 + ["fn" if step.startswith(("(fn", "(rec")) else -10, 0, -8, 0, "1"])


if __name__ == "__main__":
    unittest.main()
