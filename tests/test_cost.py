"""How many calls a term makes, and how it ends."""

import unittest

from tests.helper import COUNTED, TermCase, ask, base, clear, cost, held, hold, list_term, run, unit, weighing, world

SPEND = "((fn x x) 1)"
ADD = "(fn r (fn e (+ r e)))"


class CostTest(TermCase):
    call = staticmethod(cost)

    def test_the_example(self):
        before = [base("m"), unit("km", "1000 m"), world("m", "1/2")]
        self.check([("(+ 1[km] 1[m])", (0, 0))], 5, before)

    def test_no_call_is_made(self):
        forms = ["5", "true", "false", "nil", "(fn x x)", "(rec f x (f x))", "(let x 1 x)", "(if true 1 2)", "(pair 1 2)", "(fst (pair 1 2))",
                 "(snd (pair 1 2))", "(cons 1 nil)", "(case nil 1 h t 2)", "(case (cons 1 nil) 1 h t h)", "(+ 1 2)", "(- 1 2)", "(* 1 2)",
                 "(/ 1 2)", "(< 1 2)", "(= 1 2)", "(floor 1 2)", "(rest 1 2)", "(root 4)", "(^ 2 -9)", f"(if true 1 {SPEND})", f"(fn x {SPEND})"]
        self.check([(form, (0, 0)) for form in forms], 0)
        self.check([(form, (0, 0)) for form in forms], 1000)

    def test_applications(self):
        self.check([(SPEND, (0, 1)), ("(((fn x (fn y (- x y))) 5) 2)", (0, 2)), ("((fn x (fn y (- x y))) 5)", (0, 1)),
                    (f"((fn x x) {SPEND})", (0, 2)),
                    (f"(((fn x x) (fn y y)) {SPEND})", (0, 3)), (f"(let f (fn x {SPEND}) (pair (f 1) (f 2)))", (0, 4)),
                    (f"((fn x (if x {SPEND} 2)) false)", (0, 1)), (f"((fn x (if x {SPEND} 2)) true)", (0, 2))])

    def test_folds(self):
        three = list_term(["1", "2", "3"])
        self.check([(f"(fold {ADD} 0 nil)", (0, 0)), (f"(fold {ADD} 0 (cons 1 nil))", (0, 2)), (f"(fold {ADD} 0 {three})", (0, 6)),
                    (f"(fold (fn r (fn e {SPEND})) 0 {three})", (0, 9)), (f"(fold {ADD} {SPEND} (cons {SPEND} nil))", (0, 4)),
                    (f"(fold 5 {SPEND} nil)", (0, 1))])

    def test_recursions(self):
        self.check([(f"({COUNTED} 0)", (0, 1)), (f"({COUNTED} 5)", (0, 6)), (f"({COUNTED} 79)", (0, 80)),
                    (f"(pair ({COUNTED} 5) ({COUNTED} 7))", (0, 14)),
                    ("((rec f n (if (< n 2) n (pair (f (- n 1)) (f (- n 2))))) 10)", (0, 177))])

    def test_every_form_counts_the_calls_of_its_parts(self):
        for form in ["pair", "+", "-", "*", "/", "<", "=", "floor", "rest"]:
            self.check([(f"({form} {SPEND} {SPEND})", (0, 2))])
        self.check([(f"(cons {SPEND} (cons {SPEND} nil))", (0, 2)), (f"(let x {SPEND} (pair x {SPEND}))", (0, 2)),
                    (f"(if (= 1 {SPEND}) {SPEND} 2)", (0, 2)),
                    (f"(case (cons {SPEND} nil) {SPEND} h t {SPEND})", (0, 2)), (f"(case ((fn x x) nil) {SPEND} h t 1)", (0, 2)),
                    (f"(root {SPEND})", (0, 1)),
                    (f"(^ {SPEND} 0)", (0, 1)), (f"(fst (pair {SPEND} 1))", (0, 1)), (f"(snd (pair {SPEND} 1))", (0, 1))])

    def test_each_refusal_without_a_call(self):
        self.check([("(/ 1 0)", (1, 0)), ("(root 2)", (2, 0)), (f"(+ 1 {weighing(200)})", (3, 0)), (SPEND, (4, 0)), ("(1 1)", (6, 0)),
                    ("(if 1 1 1)", (6, 0))], 0)

    def test_each_refusal_behind_calls(self):
        heavy = weighing(200)
        self.check([(f"(/ {SPEND} (- {SPEND} {SPEND}))", (1, 3)), (f"(floor {SPEND} 0)", (1, 1)), (f"(rest {SPEND} 0)", (1, 1)),
                    ("(^ ((fn x 0) 1) -1)", (1, 1)),
                    (f"(pair (root (+ 1 {SPEND})) {SPEND})", (2, 1)), (f"(+ {SPEND} ((fn x {heavy}) 1))", (3, 2)),
                    (f"(^ ((fn x {heavy}) 1) 2)", (3, 1)),
                    (f"({SPEND} {SPEND})", (6, 2)), (f"(fold (fn r {SPEND}) 0 (cons 1 nil))", (6, 2)), (f"(fold 5 {SPEND} (cons 1 nil))", (6, 1)),
                    (f"(if {SPEND} 1 2)", (6, 1)), (f"(fst {SPEND})", (6, 1)), (f"(cons {SPEND} {SPEND})", (6, 2)),
                    (f"(case {SPEND} {SPEND} h t 1)", (6, 1)),
                    (f"(+ {SPEND} true)", (6, 1)), (f"(root (fn x {SPEND}))", (6, 0))])

    def test_a_refusal_within_calls(self):
        self.check([("((rec f x (if (= x 0) (/ 1 0) (f (- x 1)))) 9)", (1, 10)), ("((rec f x (if (= x 0) (root 2) (f (- x 1)))) 9)", (2, 10)),
                    ("((rec f x (f (* x x))) 1)", (3, 8)), ("((rec f x (if (= x 0) (x x) (f (- x 1)))) 9)", (6, 10)),
                    ("(fold (fn r (fn e (/ r e))) 1 (cons 2 (cons 0 (cons 3 nil))))", (1, 4))])

    def test_too_deep(self):
        endless = "((rec f x (f x)) 1)"
        self.check([(endless, (5, 160))], 1000)
        self.check([(endless, (5, 160))], 160)
        self.check([(endless, (4, 159))], 159)
        self.check([(f"(pair {SPEND} {endless})", (5, 160))])
        self.check([(f"(let y {SPEND} {endless})", (5, 160))])

    def test_the_budget_used_up_to_the_last_call_and_one_call_more(self):
        for term, calls in [(SPEND, 1), (f"({COUNTED} 5)", 6), (f"(fold {ADD} 0 {list_term(['1', '2'])})", 4), (f"(pair {SPEND} {SPEND})", 2)]:
            self.check([(term, (0, calls))], calls + 1)
            self.check([(term, (0, calls))], calls)
            for budget in range(calls):
                self.check([(term, (4, budget))], budget)

    def test_a_thousand_calls(self):
        thousand = "(let l {} (let k {} (fold (fn a (fn x (fold (fn b (fn y 7)) 0 k))) 0 l)))".format(list_term(["1"] * 20), list_term(["1"] * 24))
        self.check([(thousand, (0, 1000)), (f"(pair {thousand} {SPEND})", (4, 1000))], 1000)
        self.check([(thousand, (4, 999))], 999)

    def test_refusals_of_reading_stand_alone(self):
        before = [base("m")]
        for budget in [-1, 1001, 10 ** 18, -10 ** 18]:
            self.check([("1", -1), ("(", -1), ("x", -1), ("1[k]", -1), ("(/ 1 0)", -1)], budget, before)
        self.check([("", -4), ("(", -4), ("(pair x", -4), ("1[m", -4), ("(+ 1)", -4), ([40, 0, 41], -4), ("1".ljust(2001), -4),
                    ("(" * 10000, -4), ("let", -4),
                    ("x", -5), (f"(pair {SPEND} x)", -5), ("(pair x 1[k])", -5), ("1[k]", -6), (f"(pair {SPEND} 1[k])", -6), ("(pair 1[k] x)", -6),
                    ("1[m^99.m]", -7), ("1[" + ".".join(["1"] * 21) + "]", -7), ("(pair 1[m^99.m] x)", -7), ("(pair (/ 1 0) x)", -5)], 5, before)

    def test_budgets_at_the_edges(self):
        self.assertEqual(ask(cost(0, "1"), cost(1000, "1"), cost(1001, "1"), cost(-1, "1")), [(0, 0), (0, 0), -1, -1])

    def test_a_value_that_is_too_long_to_tell_costs_what_it_costs(self):
        doubled = "(fold (fn r (fn e (pair r r))) 1 {})".format(list_term(["1"] * 10))
        far = "(^ (^ (^ 999999999999 5) 5) 8)"
        self.assertEqual(ask(run(20, doubled), cost(20, doubled), run(0, far), cost(0, far)), [-10, (0, 20), -10, (0, 0)])

    def test_held_values(self):
        before = [hold(0, "f", COUNTED), hold(0, "n", "9"), hold(0, "add", ADD), hold(0, "l", list_term(["1", "2", "3"]))]
        self.check([("(f n)", (0, 10)), ("(fold add n l)", (0, 6)), ("(let f (fn x x) (f n))", (0, 1)), ("n", (0, 0)), ("f", (0, 0)),
                    ("(n f)", (6, 0)),
                    ("(pair (f 1) (/ n 0))", (1, 2)), ("(f -1)", (5, 80)), ("(pair f k)", -5)], 100, before)
        self.check([("(f n)", (4, 9))], 9, before)
        self.check([("(f n)", (0, 10))], 10, before)

    def test_each_call_has_its_own_budget(self):
        calls = [hold(0, "f", "(fn x x)"), cost(1, "(f 1)"), cost(1, "(f 1)"), run(1, "(f 1)"), cost(0, "(f 1)"), cost(1, "(f (f 1))"),
                 cost(2, "(f (f 1))")]
        self.assertEqual(ask(*calls), [0, (0, 1), (0, 1), "1", (4, 0), (4, 1), (0, 2)])

    def test_nothing_is_held(self):
        calls = [base("m"), cost(5, "(let x 1 x)"), held("x"), world("m", "3"), cost(5, "1[m]"), run(5, "1[m]"), clear(), cost(5, "x")]
        self.assertEqual(ask(*calls), [0, (0, 0), -8, 0, (0, 0), "3", 0, -5])

    def test_the_same_in_every_world(self):
        loop = "((rec f x (if (< x 5[m]) (f (+ x 1[m])) (/ x 1[m]))) 1[m])"
        heavy = "((rec f x (f (* x x))) 3[m^9])"
        for factor in ["1", "999999", "1/999999", "2/7"]:
            before = [base("m"), world("m", factor)]
            self.check([(loop, (0, 5)), (heavy, (3, 8))], 1000, before)


if __name__ == "__main__":
    unittest.main()
