"""Each form worked out, to a value and to its refusals."""

import unittest

from tests.helper import COUNTED, TermCase, base, list_term, unit, value, weighing, world

ZERO_200 = f"(* 0 {weighing(199)})"
ONE_200 = weighing(200)
ONE_199 = weighing(199)
OF_TWO_NUMBERS = ["+", "-", "*", "/", "<", "=", "floor", "rest"]


class PlainFormTest(TermCase):
    def test_the_example(self):
        before = [base("m"), unit("km", "1000 m"), world("m", "1/2")]
        self.assertEqual(value("(+ 1[km] 1[m])", 5, before), "1001/2")

    def test_leaves(self):
        self.check([("5", "5"), ("true", "true"), ("false", "false"), ("nil", "[]")], 0)

    def test_functions(self):
        self.check([("(fn x x)", "fn"), ("(rec f x x)", "fn")], 0)
        self.check([("((fn x (+ x 1)) 2)", "3"), ("((fn x 7) 2)", "7"), ("(((fn x (fn y (- x y))) 5) 2)", "3"),
                    ("((rec f x (if (= x 0) 1 (* x (f (- x 1))))) 5)", "120"), ("((rec f x f) 1)", "fn")])

    def test_a_function_keeps_the_values_around_it(self):
        self.check([("(let a 1 (let f (fn x (+ x a)) (let a 100 (f 1))))", "2"),
                    ("(let f (let a 5 (fn x a)) (let a 6 (f 1)))", "5"),
                    ("(let k (fn a (fn b a)) (let x (k 1) (let y (k 2) (pair (x 0) (y 0)))))", "(1, 2)")])

    def test_if_one_form_binds_a_name_twice_the_second_counts(self):
        self.check([("((rec x x x) 5)", "5"), ("((rec f f (+ f 1)) 5)", "6"), ("(case (cons 1 nil) 0 h h h)", "[]"),
                    ("(case (cons 1 (cons 2 nil)) 0 t t t)", "[2]")])

    def test_the_innermost_binding_counts(self):
        self.check([("(let x 1 (let x 2 x))", "2"), ("(let x 1 (let x (+ x 1) (+ x x)))", "4"), ("(let x 1 ((fn x (+ x 1)) 10))", "11"),
                    ("(let h 1 (case (cons 5 nil) 0 h t h))", "5"), ("(let h 1 (case nil h h t 2))", "1"), ("(let f 1 ((rec f x (if x 2 (f true))) false))", "2"),
                    ("(let x 1 (pair (let x 2 x) x))", "(2, 1)"), ("(let x 1 (let y 2 (let x 3 (cons x (cons y nil)))))", "[3, 2]")])

    def test_let(self):
        self.check([("(let x (+ 1 2) (* x x))", "9"), ("(let x (/ 1 0) 5)", 1), ("(let x (/ 1 0) (root 2))", 1), ("(let x 5 (root 2))", 2)], 0)

    def test_if(self):
        self.check([("(if true 1 2)", "1"), ("(if false 1 2)", "2"), ("(if true 1 (/ 1 0))", "1"), ("(if false (/ 1 0) 2)", "2"),
                    ("(if true (/ 1 0) 2)", 1), ("(if (/ 1 0) 1 2)", 1), ("(if 1 1 2)", 6), ("(if 0 1 2)", 6), ("(if nil 1 2)", 6),
                    ("(if (pair true true) 1 2)", 6), ("(if (fn x x) 1 2)", 6), ("(if (cons true nil) 1 2)", 6), ("(if 1 (/ 1 0) (/ 1 0))", 6)], 0)

    def test_pairs(self):
        self.check([("(pair 1 true)", "(1, true)"), ("(fst (pair 1 2))", "1"), ("(snd (pair 1 2))", "2"), ("(fst (snd (pair 1 (pair 2 3))))", "2"),
                    ("(pair (/ 1 0) (root 2))", 1), ("(pair (root 2) (/ 1 0))", 2), ("(fst (/ 1 0))", 1), ("(snd (/ 1 0))", 1)], 0)
        for form in ["fst", "snd"]:
            self.check([(f"({form} {other})", 6) for other in ["1", "true", "nil", "(fn x x)", "(cons 1 nil)", "(cons 1 (cons 2 nil))"]], 0)

    def test_lists(self):
        self.check([("(cons 1 nil)", "[1]"), ("(cons true (cons nil nil))", "[true, []]"), ("(let l (cons 1 nil) (pair (cons 2 l) (cons 3 l)))", "([2, 1], [3, 1])"),
                    ("(cons (/ 1 0) (root 2))", 1), ("(cons (root 2) (/ 1 0))", 2), ("(cons (root 2) 5)", 2)], 0)
        self.check([(f"(cons 1 {other})", 6) for other in ["1", "true", "(pair 1 nil)", "(fn x x)"]], 0)

    def test_case(self):
        self.check([("(case nil 5 h t h)", "5"), ("(case (cons 1 (cons 2 nil)) 5 h t h)", "1"), ("(case (cons 1 (cons 2 nil)) 5 h t t)", "[2]"),
                    ("(case nil 5 h t (/ 1 0))", "5"), ("(case (cons 1 nil) (/ 1 0) h t t)", "[]"), ("(case nil (/ 1 0) h t 1)", 1),
                    ("(case (cons 1 nil) 1 h t (/ h 0))", 1), ("(case (root 2) (/ 1 0) h t 1)", 2)], 0)
        self.check([(f"(case {other} 1 h t 2)", 6) for other in ["1", "true", "(pair 1 nil)", "(fn x x)"]], 0)

    def test_fold(self):
        takes = "(fn r (fn e (- e r)))"
        self.check([(f"(fold {takes} 10 (cons 1 (cons 2 (cons 3 nil))))", "-8"), (f"(fold {takes} 10 nil)", "10"),
                    ("(fold (fn r (fn e (cons e r))) nil (cons 1 (cons 2 nil)))", "[2, 1]"),
                    ("(fold 5 10 nil)", "10"), ("(fold 5 10 (cons 1 nil))", 6), ("(fold (fn r 5) 10 (cons 1 nil))", 6),
                    ("(fold (fn r r) (fn e e) (cons 1 nil))", "1"), ("(fold (fn r r) (fn e e) (cons 1 (cons 2 nil)))", 6),
                    ("(fold (rec f r (fn e (pair f r))) 1 (cons 2 nil))", "(fn, 1)")])
        self.check([(f"(fold {takes} 10 {other})", 6) for other in ["1", "true", "(pair 1 nil)", "(fn x x)"]])

    def test_fold_works_out_its_parts_in_order(self):
        self.check([("(fold (/ 1 0) (root 2) 5)", 1), ("(fold 5 (root 2) (/ 1 0))", 2), ("(fold 5 10 (/ 1 0))", 1), ("(fold 5 10 5)", 6),
                    ("(fold (fn r (/ 1 0)) 10 (cons (root 2) nil))", 2)])


class NumberFormTest(TermCase):
    def test_sums_and_products(self):
        self.check([("(+ 1/2 1/3)", "5/6"), ("(+ 1/2 1/2)", "1"), ("(+ 5 -5)", "0"), ("(- 1/2 1/3)", "1/6"), ("(- 1 2)", "-1"), ("(- 1/3 1/3)", "0"),
                    ("(* 2/3 3/4)", "1/2"), ("(* -2 -3)", "6"), ("(* 0 -3)", "0"), ("(/ 2/3 4/3)", "1/2"), ("(/ 1 -3)", "-1/3"), ("(/ -1 -3)", "1/3"),
                    ("(/ 0 -3)", "0"), ("(/ 6 3)", "2"), ("(/ 1/2 -1/3)", "-3/2")], 0)

    def test_floor_and_rest(self):
        rows = [("7", "2", "3", "1"), ("-7", "2", "-4", "1"), ("7", "-2", "-4", "-1"), ("-7", "-2", "3", "-1"), ("6", "2", "3", "0"),
                ("-6", "2", "-3", "0"), ("1/2", "1/3", "1", "1/6"), ("-1/2", "1/3", "-2", "1/6"), ("1/2", "-1/3", "-2", "-1/6"),
                ("7.5", "0.5", "15", "0"), ("0", "-3", "0", "0"), ("1/7", "5", "0", "1/7"), ("-1/7", "5", "-1", "34/7"), ("2/3", "1/3", "2", "0")]
        for a, b, whole, rest in rows:
            self.check([(f"(floor {a} {b})", whole), (f"(rest {a} {b})", rest)], 0)

    def test_dividing_by_0(self):
        for form in ["/", "floor", "rest"]:
            self.check([(f"({form} 1 0)", 1), (f"({form} 0 0)", 1), (f"({form} 1 (- 1/3 1/3))", 1), (f"({form} 0 5)", "0")], 0)

    def test_powers(self):
        self.check([("(^ 2/3 3)", "8/27"), ("(^ 2/3 -3)", "27/8"), ("(^ -2 3)", "-8"), ("(^ -2 2)", "4"), ("(^ -2 -3)", "-1/8"), ("(^ -2/3 -1)", "-3/2"),
                    ("(^ 0 0)", "1"), ("(^ 0 -0)", "1"), ("(^ 0 5)", "0"), ("(^ 0 -1)", 1), ("(^ 5 0)", "1"), ("(^ 5 1)", "5"), ("(^ (root 2) 0)", 2)], 0)
        self.check([(f"(^ {other} {n})", 6) for other in ["true", "nil", "(pair 1 1)", "(fn x x)"] for n in [2, 0, -1]], 0)

    def test_roots(self):
        self.check([("(root 0)", "0"), ("(root 1)", "1"), ("(root 4)", "2"), ("(root 9/4)", "3/2"), ("(root 0.25)", "1/2"), ("(root (/ 2 8))", "1/2"),
                    ("(root (* 1/2 1/2))", "1/2"), ("(root (^ -3 2))", "3"), ("(root 999998000001)", "999999"),
                    ("(root (^ 999999999999/17 8))", f"{999999999999 ** 4}/{17 ** 4}")], 0)
        self.check([("(root 2)", 2), ("(root 1/2)", 2), ("(root 4/3)", 2), ("(root 3/4)", 2), ("(root -1)", 2), ("(root -4)", 2), ("(root 8)", 2),
                    ("(root 999998000000)", 2), ("(root 999998000002)", 2), ("(root (+ 1 (^ 999999999999 8)))", 2), ("(root (/ 1 0))", 1)], 0)
        self.check([(f"(root {other})", 6) for other in ["true", "nil", "(pair 1 1)", "(fn x x)", "(cons 1 nil)"]], 0)

    def test_roots_of_all_small_fractions(self):
        for top in range(0, 40):
            for bottom in range(1, 20):
                roots = [(a, b) for b in range(1, 20) for a in range(0, 40) if a * a * bottom == top * b * b]
                answer = value(f"(root {top}/{bottom})", 0)
                if roots:
                    a, b = roots[0]
                    self.assertEqual(answer, str(a) if b == 1 else f"{a}/{b}")
                else:
                    self.assertEqual(answer, 2)

    def test_comparing(self):
        self.check([("(< 1 2)", "true"), ("(< 2 1)", "false"), ("(< 1 1)", "false"), ("(< 1/3 1/2)", "true"), ("(< -1/2 -1/3)", "true"), ("(< 2/4 1/2)", "false"),
                    ("(= 1 1)", "true"), ("(= 1/2 0.5)", "true"), ("(= (/ 2 6) 1/3)", "true"), ("(= 1 2)", "false"), ("(= 0 -0)", "true"), ("(= 1 -1)", "false"),
                    ("(= (/ 1 -2) (/ -1 2))", "true"), ("(< (/ 1 -2) 0)", "true")], 0)

    def test_both_have_to_be_numbers(self):
        for form in OF_TWO_NUMBERS:
            for other in ["true", "false", "nil", "(pair 1 1)", "(cons 1 nil)", "(fn x x)"]:
                self.check([(f"({form} 1 {other})", 6), (f"({form} {other} 1)", 6), (f"({form} {other} {other})", 6), (f"({form} {other} 0)", 6)], 0)

    def test_both_parts_are_worked_out_first(self):
        for form in OF_TWO_NUMBERS:
            self.check([(f"({form} true (root 2))", 2), (f"({form} (root 2) true)", 2), (f"({form} (root 2) (/ 1 0))", 2), (f"({form} (/ 1 0) (root 2))", 1)], 0)


class WeightTest(TermCase):
    def test_two_hundred_and_no_more(self):
        for form in ["+", "-", "*", "/", "floor", "rest"]:
            self.check([(f"(fst (pair 7 ({form} {ONE_199} 1)))", "7"), (f"({form} {ONE_200} 1)", 3), (f"({form} 1 {ONE_200})", 3),
                        (f"(fst (pair 7 ({form} {weighing(100)} {weighing(100)})))", "7"), (f"({form} {weighing(100)} {weighing(101)})", 3)], 0)

    def test_the_weight_of_what_comes_out_is_the_sum(self):
        for form in ["+", "-", "*", "/", "floor", "rest"]:
            of_100 = f"({form} {weighing(60)} {weighing(40)})"
            self.check([(f"(= 1 (* 0 (* {of_100} {weighing(99)})))", "false"), (f"(* {of_100} {weighing(101)})", 3)], 0)

    def test_powers(self):
        self.check([("(^ (^ (^ 1 5) 5) 8)", "1"), ("(^ (^ (^ 1 5) 5) 9)", 3), ("(^ (^ (^ 1 5) 5) -8)", "1"), ("(^ (^ (^ 1 5) 5) -9)", 3),
                    (f"(^ {weighing(100)} 2)", "1"), (f"(^ {weighing(101)} 2)", 3), (f"(^ {weighing(101)} -2)", 3),
                    (f"(* {ONE_199} (^ {ONE_200} 0))", "1"), (f"(* {ONE_200} (^ {ONE_200} 0))", 3), (f"(* {ONE_199} (^ 5 1))", "5"),
                    (f"(^ {ONE_200} 1)", "1"), (f"(^ {ONE_200} -1)", "1")], 0)

    def test_roots_keep_the_weight(self):
        self.check([(f"(root {ONE_200})", "1"), (f"(* (root {ONE_199}) 1)", "1"), (f"(* (root {ONE_200}) 1)", 3)], 0)

    def test_comparing_has_no_weight(self):
        self.check([(f"(= {ONE_200} {ONE_200})", "true"), (f"(< {ONE_200} {ONE_200})", "false")], 0)

    def test_numbers_weigh_1_whatever_they_are(self):
        self.check([(f"(* {ONE_199} 999999999999)", "999999999999"), (f"(* {ONE_199} 0)", "0"), (f"(* {ONE_199} 5[1])", "5")], 0)

    def test_the_value_of_0_weighs_too(self):
        self.check([(f"(+ {ZERO_200} 1)", 3), (f"(^ {ZERO_200} 2)", 3), (f"(^ {ZERO_200} 0)", "1")], 0)

    def test_names_and_lists_and_calls_add_no_weight(self):
        self.check([(f"(let x {ONE_199} (+ (snd (pair x x)) 1))", "2"), (f"(case (cons {ONE_199} nil) 0 h t (+ h 1))", "2"), (f"((fn x (+ x 1)) {ONE_199})", "2")])

    def test_dividing_by_0_comes_ahead_of_weight(self):
        for form in ["/", "floor", "rest"]:
            self.check([(f"({form} {ONE_200} 0)", 1), (f"({form} 1 {ZERO_200})", 1)], 0)
        self.check([(f"(^ {ZERO_200} -2)", 1), (f"(^ {ZERO_200} 2)", 3)], 0)

    def test_the_sort_comes_ahead_of_weight(self):
        for form in OF_TWO_NUMBERS:
            self.check([(f"({form} {ONE_200} true)", 6)], 0)


class CallTest(TermCase):
    def test_each_call_counts(self):
        for budget, answer in [(0, 4), (1, 4), (2, "3"), (3, "3")]:
            self.check([("(((fn x (fn y (- x y))) 5) 2)", answer), ("(let f (fn x x) (pair (f 3) (f 4)))", answer if answer == 4 else "(3, 4)")], budget)
        takes = "(fold (fn r (fn e (+ r e))) 0 (cons 1 (cons 2 (cons 3 nil))))"
        self.check([(takes, 4)], 5)
        self.check([(takes, "6")], 6)
        self.check([("(fold (fn r (fn e (+ r e))) 0 nil)", "0")], 0)

    def test_a_thousand_calls(self):
        two_folds = "(let l {} (fold (fn a (fn x (fold (fn b (fn y (pair 0 0))) 0 l))) 0 l))"
        takes = two_folds.format(list_term(["1"] * 10))
        self.check([(takes, 4)], 219)
        self.check([(takes, "(0, 0)")], 220)
        thousand = "(let l {} (let k {} (fold (fn a (fn x (fold (fn b (fn y 7)) 0 k))) 0 l)))".format(list_term(["1"] * 20), list_term(["1"] * 24))
        self.check([(thousand, "7")], 1000)
        self.check([(thousand, 4)], 999)
        self.check([(f"(pair {thousand} ((fn x x) 1))", 4)], 1000)

    def test_calls_are_left_by_one_part_for_the_next(self):
        spend = "((fn x x) 1)"
        for form in ["pair", "+", "-", "*", "/", "<", "=", "floor", "rest"]:
            self.check([(f"({form} {spend} {spend})", 4)], 1)
            self.assertNotEqual(value(f"({form} {spend} {spend})", 2), 4)
        self.check([(f"(cons {spend} (cons {spend} nil))", 4), (f"(let x {spend} {spend})", 4), (f"(if (= 1 {spend}) {spend} 2)", 4),
                    (f"(case (cons {spend} nil) 1 h t {spend})", 4), (f"((fn x x) {spend})", 4), (f"(fold {spend} {spend} 5)", 4)], 1)
        self.check([(f"(if (= 1 {spend}) 2 {spend})", "2"), (f"(fold {spend} 5 nil)", "5"), (f"(fst (pair 5 {spend}))", "5")], 1)

    def test_what_is_called_has_to_be_a_function(self):
        self.check([(f"({other} 1)", 6) for other in ["1", "true", "nil", "(pair 1 1)", "(cons 1 nil)"]], 5)
        self.check([(f"({other} 1)", 6) for other in ["1", "true", "nil", "(pair 1 1)", "(cons 1 nil)"]], 0)

    def test_both_parts_are_worked_out_before_the_call(self):
        self.check([("((/ 1 0) (root 2))", 1), ("(1 (root 2))", 2), ("((fn x x) (root 2))", 2)], 0)

    def test_fold_calls_twice_for_each(self):
        self.check([("(fold (fn r 5) 0 (cons 1 nil))", 4)], 0)
        self.check([("(fold (fn r 5) 0 (cons 1 nil))", 6), ("(fold (fn r (fn e 5)) 0 (cons 1 nil))", 4)], 1)
        self.check([("(fold 5 0 (cons 1 nil))", 6)], 0)

    def test_a_value_that_was_not_asked_for_is_worked_out_all_the_same(self):
        self.check([("((fn x 1) (/ 1 0))", 1), ("(fst (pair 1 (/ 1 0)))", 1)])


class DepthTest(TermCase):
    def test_calls_at_depth_160_and_not_at_161(self):
        endless = "((rec f x (f x)) 1)"
        self.check([(endless, 5)], 1000)
        self.check([(endless, 5)], 160)
        self.check([(endless, 4)], 159)

    def test_each_form_round_a_call_is_one_deeper(self):
        self.check([(f"({COUNTED} 79)", "7"), (f"({COUNTED} 80)", 5), (f"(let g {COUNTED} (g 79))", "7"), (f"(let g {COUNTED} (g 80))", 5),
                    (f"(let y 1 (let g {COUNTED} (g 78)))", "7"), (f"(let y 1 (let g {COUNTED} (g 79)))", 5)])

    def test_each_part_of_each_form_is_one_deeper_than_the_form(self):
        forms = ["(let y @ 1)", "(let y 1 @)", "(if @ 1 1)", "(if true @ 1)", "(if false 1 @)", "(@ 1)", "((fn y y) @)", "(pair @ 1)", "(pair 1 @)",
                 "(fst @)", "(snd @)", "(cons @ nil)", "(cons 1 @)", "(case @ 1 h t 1)", "(case nil @ h t 1)", "(case (cons 1 nil) 1 h t @)",
                 "(fold @ 1 nil)", "(fold 1 @ nil)", "(fold 1 1 @)", "(^ @ 2)", "(root @)"]
        forms += [form for sign in OF_TWO_NUMBERS for form in (f"({sign} @ 1)", f"({sign} 1 @)")]
        for form in forms:
            with self.subTest(form):
                # A round: the call at n, if at n + 1, the form at n + 2, the next call at n + 3.
                term = "((rec f x (if (= x 0) 1 {})) {})"
                inside = form.replace("@", "(f (- x 1))")
                self.assertNotEqual(value(term.format(inside, 53)), 5)
                self.assertEqual(value(term.format(inside, 54)), 5)

    def test_fold_calls_at_its_own_depth_within_other_forms(self):
        # A round: the call at n, if at n + 1, fold and its two calls at n + 2, the next call at n + 3 or n + 4.
        for inside, most in [("(fold (fn r (fn e (f (- x 1)))) 0 (cons 1 nil))", 53),
                             ("(fold (fn r (let g (f (- x 1)) (fn e g))) 0 (cons 1 nil))", 39)]:
            self.check([(f"((rec f x (if (= x 0) 7 {inside})) {most})", "7"), (f"((rec f x (if (= x 0) 7 {inside})) {most + 1})", 5)])

    def test_a_call_within_two_forms(self):
        self.check([("((rec f x (if (= x 0) 7 (fst (pair (f (- x 1)) 1)))) 39)", "7"), ("((rec f x (if (= x 0) 7 (fst (pair (f (- x 1)) 1)))) 40)", 5)])

    def test_fold_calls_at_its_own_depth(self):
        folding = "(rec f x (fold (fn r (fn e (if (= x 0) 7 (f (- x 1))))) 0 (cons 1 nil)))"
        # A round: the call at n, fold at n + 1, its function's body at n + 2, the next call at n + 3.
        self.check([(f"({folding} 52)", "7"), (f"({folding} 53)", 5), (f"(let g {folding} (g 52))", "7"), (f"(let g {folding} (g 53))", 5),
                    (f"(let z 1 (let g {folding} (g 52)))", "7"), (f"(let y 1 (let z 1 (let g {folding} (g 52))))", 5),
                    (f"(let y 1 (let z 1 (let g {folding} (g 51))))", "7")])

    def test_wrong_sort_comes_ahead_of_depth_and_depth_ahead_of_calls(self):
        def ending(inside):
            return f"((rec f x (if (= x 0) {inside} (f (- x 1)))) 79)"
        # The last body stands at the depth 160, what ends it at 161.
        self.check([(ending("(1 1)"), 6), (ending("((fn y y) 1)"), 5)], 1000)
        self.check([(ending("(1 1)"), 6), (ending("((fn y y) 1)"), 5)], 80)
        self.check([(ending("((fn y y) 1)"), 4)], 79)

    def test_no_calls_may_be_deeper(self):
        deep = "(+ 1 " * 36 + "1" + ")" * 36
        self.check([(f"((rec f x (if (= x 0) {deep} (f (- x 1)))) 79)", "37")])

    def test_the_depth_is_looked_at_where_the_call_stands(self):
        # The function that is called was made deep inside, but is called at the top.
        self.check([("(((rec f x (if (= x 0) (fn y y) (f (- x 1)))) 79) 3)", "3")])


if __name__ == "__main__":
    unittest.main()
