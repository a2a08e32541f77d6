"""Values held under names, and used by later terms."""

import unittest

from tests.helper import COUNTED, TAKEN_WORDS, TermCase, ask, base, clear, cost, held, hold, last, list_term, plain_holds, run, unit
from tests.helper import weighing, world

NO_NAMES = ["", " ", "X", "aX", "1", "1a", "_", "_a", "a b", " a", "a ", "a-b", "a[m]", "(a)", "abcdefghijklm", "a" * 10000, [0], [97, 0],
            [97, 200], [225], [255],
            [96], [123], "a?", "?", "a\n"]
# A budget and a term for each refusal of reading.
UNREADABLE = [(-1, "1", -1), (1001, "1", -1), (10 ** 18, "(", -1), (5, "(", -4), (5, "", -4), (5, "1 2", -4), (5, "(pair x 1[m)", -4), (5, "x", -5),
              (5, "(pair x 1[k])", -5), (5, "1[k]", -6), (5, "(pair 1[k] x)", -6), (5, "1[m^99.m]", -7), (5, "(pair 1[m^99.m] 1[k])", -7)]


class HoldTest(TermCase):
    def test_a_value_is_held_from_now_on(self):
        calls = [run(0, "x"), hold(0, "x", "(+ 1 2)"), held("x"), run(0, "(* x x)"), cost(0, "x"), hold(0, "y", "(- x 5)"), held("y"), held("x")]
        self.assertEqual(ask(*calls), [-5, 0, "3", "9", (0, 0), 0, "-2", "3"])

    def test_numbers(self):
        before = [base("m"), world("m", "2/7"), hold(0, "x", "3/2"), hold(0, "d", "5[m^2]"), hold(0, "z", "(- x x)")]
        self.check([("x", "3/2"), ("(/ d 1[m])", "10/7"), ("(= d 5[m^2])", "true"), ("(< z x)", "true"), ("(/ x z)", 1), ("(root (* x x))", "3/2"),
                    ("(^ x -2)", "4/9"), ("(floor d x)", "0"), ("(rest x 1)", "1/2"), ("(x 1)", 6), ("(if x 1 2)", 6)], before=before)

    def test_truths(self):
        before = [hold(0, "yes", "(< 1 2)"), hold(0, "no", "false")]
        self.check([("(if yes 1 2)", "1"), ("(if no 1 2)", "2"), ("(pair yes no)", "(true, false)"), ("(+ yes 1)", 6), ("(yes no)", 6)],
                   before=before)

    def test_lists(self):
        before = [hold(0, "l", list_term(["1", "2", "3"])), hold(0, "none", "nil"), hold(0, "ll", "(cons l (cons none nil))"),
                  hold(0, "k", "(cons 0 l)")]
        self.check([("l", "[1, 2, 3]"), ("none", "[]"), ("ll", "[[1, 2, 3], []]"), ("k", "[0, 1, 2, 3]"), ("(case l 0 h t t)", "[2, 3]"),
                    ("(case none 0 h t t)", "0"), ("(fold (fn r (fn e (+ r e))) 0 k)", "6"), ("(cons l l)", "[[1, 2, 3], 1, 2, 3]"),
                    ("(fold (fn r (fn e (cons e r))) none l)", "[3, 2, 1]"), ("(fst l)", 6), ("(+ l 1)", 6), ("(if none 1 2)", 6)], before=before)

    def test_pairs(self):
        before = [hold(0, "p", "(pair 1 (fn x (+ x 1)))"), hold(0, "q", "(pair p p)")]
        self.check([("p", "(1, fn)"), ("q", "((1, fn), (1, fn))"), ("((snd p) (fst p))", "2"), ("(fst (snd q))", "1"), ("(cons 1 p)", 6),
                    ("(p 1)", 6)], before=before)

    def test_functions(self):
        before = [hold(0, "inc", "(fn x (+ x 1))"), hold(0, "twice", "(fn f (fn x (f (f x))))"), hold(0, "count", COUNTED),
                  hold(1, "more", "(twice inc)"),
                  hold(0, "add", "(fn r (fn e (+ r e)))")]
        self.check([("inc", "fn"), ("(inc 1)", "2"), ("((twice inc) 1)", "3"), ("(more 1)", "3"), ("((twice more) 1)", "5"), ("(count 20)", "7"),
                    ("(fold add 0 (cons 1 (cons 2 nil)))", "3"), ("((add 1) 2)", "3"), ("(+ inc 1)", 6), ("(inc true)", 6),
                    ("(inc inc)", 6)], before=before)

    def test_held_values_in_a_later_hold(self):
        calls = [hold(0, "inc", "(fn x (+ x 1))"), hold(0, "two", "2"), hold(1, "three", "(inc two)"), hold(0, "four", "(inc three)"),
                 hold(9, "l", "(cons two (cons (inc three) nil))"), hold(0, "g", "(fn y (inc (inc y)))"), held("l"), run(3, "(g two)"),
                 run(2, "(g two)"), held("four")]
        self.assertEqual(ask(*calls), [0, 0, 0, 4, 0, 0, "[2, 4]", "4", 4, -8])

    def test_a_value_keeps_its_weight(self):
        before = [hold(0, "x", weighing(199)), hold(0, "y", "(+ x 1)"), hold(0, "p", f"(pair {weighing(200)} (cons {weighing(100)} nil))")]
        self.check([("x", "1"), ("(+ x 1)", "2"), ("(+ (+ x 1) 1)", 3), ("(+ x x)", 3), ("y", "2"), ("(+ y 1)", 3), ("(* 1 y)", 3),
                    ("(^ y 1)", "2"), ("(^ y 2)", 3),
                    ("(* x (^ y 0))", "1"), ("(= y y)", "true"), ("(* (fst p) 1)", 3), ("(case (snd p) 0 h t (+ h h))", "2"),
                    ("(case (snd p) 0 h t (+ h (+ h 1)))", 3), ("(root x)", "1"), ("(* (root (fst p)) 1)", 3)], before=before)
        self.assertEqual(ask(*before, cost(0, "(+ y 1)"), hold(0, "z", "(+ y 1)"), held("z"), hold(0, "z", "(^ y 0)"),
                             run(0, "(* x z)"))[3:], [(3, 0), 3, -8, 0, "1"])

    def test_weights_add_up_from_hold_to_hold(self):
        calls = [hold(0, "h0", "1")] + [hold(0, f"h{k}", f"(+ h{k - 1} h{k - 1})") for k in range(1, 10)]
        self.assertEqual(ask(*calls, held("h7"), held("h8")), [0] * 8 + [3, -5, "128", -8])

    def test_names(self):
        for name in ["a", "z", "a1", "a_", "x_9y", "abcdefghijkl", "m", "name", "number", "call", "apply", "fnx", "truthy", "h0"]:
            with self.subTest(name):
                self.assertEqual(ask(base("m"), hold(0, name, "5"), held(name), run(0, f"(+ {name} 1)")), [0, 0, "5", "6"])

    def test_no_names(self):
        for name in NO_NAMES + TAKEN_WORDS:
            with self.subTest(name):
                self.assertEqual(ask(hold(0, name, "5"), held(name), clear(), hold(0, "a", "1")), [-11, -8, 0, 0])

    def test_a_name_under_which_a_value_is_held(self):
        calls = [hold(0, "x", "5"), hold(0, "x", "6"), held("x"), hold(0, "x", "(+ x 1)"), held("x"), hold(0, "xx", "6"), held("xx")]
        self.assertEqual(ask(*calls), [0, -2, "5", -2, "5", 0, "6"])

    def test_forty_values_and_no_more(self):
        calls = plain_holds(40) + [hold(0, "more", "1"), held("more"), held("h39"), run(0, "(+ h39 h38)"), clear(), hold(0, "more", "1"),
                                   held("more")]
        self.assertEqual(ask(*calls), [0] * 40 + [-3, -8, "39", "77", 0, 0, "1"])

    def test_refused_holds_do_not_count_to_forty(self):
        refused = [hold(0, "a", "(/ 1 0)"), hold(0, "b", "("), hold(0, "h1", "1"), hold(0, "fn", "1")]
        self.assertEqual(ask(*plain_holds(39), *refused, hold(0, "last", "1"), hold(0, "more", "1")), [0] * 39 + [1, -4, -2, -11, 0, -3])

    def test_refusals_of_reading(self):
        for budget, term, answer in UNREADABLE:
            with self.subTest((budget, term)):
                self.assertEqual(ask(base("m"), hold(budget, "a", term), held("a"), hold(0, "a", "1"))[1:], [answer, -8, 0])

    def test_order_of_refusals(self):
        full = [base("m")] + plain_holds(40)
        for budget, term, answer in UNREADABLE + [(0, "(/ 1 0)", 1), (0, "1", 0)]:
            with self.subTest((budget, term)):
                for name in ["", "let", "A"]:
                    self.assertEqual(last(*full, hold(budget, name, term)), -11)
                self.assertEqual(last(*full, hold(budget, "h0", term)), -2)
                self.assertEqual(last(*full, hold(budget, "new", term)), -3)
                self.assertEqual(last(base("m"), hold(0, "a", "1"), hold(budget, "fn", term)), -11)
                self.assertEqual(last(base("m"), hold(0, "a", "1"), hold(budget, "a", term)), -2)
                self.assertEqual(last(base("m"), hold(0, "a", "1"), hold(budget, "b", term)), answer)

    def test_what_is_refused_in_working_out_holds_nothing(self):
        for budget, term, answer in [(0, "(/ 1 0)", 1), (0, "(root 2)", 2), (0, f"(+ 1 {weighing(200)})", 3), (0, "((fn x x) 1)", 4),
                                     (1, "((fn x x) ((fn x x) 1))", 4),
                                     (1000, "((rec f x (f x)) 1)", 5), (9, "((fn x (x x)) 1)", 6), (0, "(pair 1 (/ 1 0))", 1)]:
            with self.subTest(term):
                calls = [hold(budget, "a", term), held("a"), run(0, "a"), hold(0, "a", "8"), held("a")]
                self.assertEqual(ask(*calls), [answer, -8, -5, 0, "8"])

    def test_the_budget(self):
        term = "(fold (fn r (fn e (+ r e))) 0 (cons 1 (cons 2 nil)))"
        self.assertEqual(ask(hold(3, "a", term), hold(4, "a", term), held("a"), hold(1000, "b", "1"), hold(0, "c", "1")), [4, 0, "3", 0, 0])

    def test_a_function_costs_when_it_is_called(self):
        calls = [hold(0, "f", COUNTED), run(5, "(f 4)"), run(4, "(f 4)"), cost(9, "(f 4)"), hold(4, "a", "(f 4)"), hold(5, "a", "(f 4)"), held("a")]
        self.assertEqual(ask(*calls), [0, "7", 4, (0, 5), 4, 0, "7"])

    def test_a_function_is_as_deep_as_its_call(self):
        made_deep = "(let a 1 " * 36 + "(fn x (g x))" + ")" * 36
        before = [hold(0, "g", COUNTED), hold(0, "d", made_deep)]
        self.check([("(g 79)", "7"), ("(g 80)", 5), ("(let y 1 (g 79))", "7"), ("(let y 1 (let z 1 (g 78)))", "7"), ("(let y 1 (let z 1 (g 79)))", 5),
                    ("(d 79)", "7"), ("(d 80)", 5), ("(let y 1 (d 78))", "7"), ("(let y 1 (d 79))", 5)], before=before)

    def test_deep_terms_in_functions_that_are_called_deep(self):
        # The last call stands at the depth 160, the innermost part of what it calls at 198.
        before = [hold(0, "deep", "(fn y " + "(+ 1 " * 37 + "y" + ")" * 37 + ")"), hold(0, "f", "(rec f x (if (= x 0) (deep 1) (f (- x 1))))")]
        self.check([("(let y 1 (f 78))", "38"), ("(let y 1 (f 79))", 5), ("(deep (deep (deep 1)))", "112")], before=before)

    def test_a_term_is_worked_out_once(self):
        calls = [base("m"), hold(0, "x", "(+ 1[m] 1)"), base("s"), unit("u", "7 s"), unit("km", "1000 m"), held("x"), run(0, "(* x 1[km])")]
        self.assertEqual(ask(*calls), [0, 0, 0, 0, 0, "2", "2000"])

    def test_measures_in_held_functions(self):
        calls = [base("m"), world("m", "2"), hold(0, "f", "(fn x (* x 3[m]))"), base("s"), unit("km", "1000 m"), run(1, "(f 1[km])"),
                 run(1, "(f 1[s])")]
        self.assertEqual(ask(*calls), [0, 0, 0, 0, 0, "12000", "6"])

    def test_names_of_measures_and_of_values_are_apart(self):
        calls = [base("m"), world("m", "3"), hold(0, "m", "5"), run(0, "(* m 2[m])"), base("x"), hold(0, "km", "7"), run(0, "1[km]"),
                 unit("km", "1000 m"), run(0, "(- 1[km] km)"),
                 base("m"), held("x")]
        self.assertEqual(ask(*calls), [0, 0, 0, "30", 0, 0, -6, 0, "2993", -2, -8])


class BindingTest(TermCase):
    """Held names, and forms that bind the same names."""

    def test_the_forms_value_counts(self):
        before = [hold(0, "x", "5"), hold(0, "f", "(fn y 50)"), hold(0, "h", "6"), hold(0, "t", "7")]
        self.check([("(let x 1 x)", "1"), ("(let x (+ x 1) x)", "6"), ("(pair (let x 1 x) x)", "(1, 5)"), ("((fn x (+ x 1)) 10)", "11"),
                    ("((fn y x) 1)", "5"),
                    ("((fn x x) x)", "5"), ("(f x)", "50"), ("((rec f x (if (= x 0) 3 (f (- x 1)))) x)", "3"), ("((rec x f f) 1)", "1"),
                    ("((rec x y x) 1)", "fn"), ("(let f (fn y 51) (f x))", "51"), ("(case (cons 1 nil) h h t (pair h t))", "(1, [])"),
                    ("(case nil (pair h t) h t 1)", "(6, 7)"), ("(case (cons h nil) 0 h t (pair h t))", "(6, [])"),
                    ("(pair (case (cons 1 nil) 0 x t x) (pair x t))", "(1, (5, 7))"),
                    ("(fold (fn x (fn h (+ x h))) x (cons h (cons t nil)))", "18"), ("(let x 1 (let y x (let x 2 (pair x y))))", "(2, 1)")],
                   before=before)

    def test_a_function_keeps_the_held_values_that_it_names(self):
        before = [hold(0, "a", "5"), hold(0, "f", "(fn x (+ x a))"), hold(0, "g", "(fn x (f (f x)))"),
                  hold(0, "r", "(rec r n (if (= n 0) a (r (- n 1))))")]
        self.check([("(f 1)", "6"), ("(let a 100 (f 1))", "6"), ("((fn a (f a)) 1)", "6"), ("(case (cons 100 nil) 0 a t (f a))", "105"),
                    ("(let x 100 (f 1))", "6"),
                    ("(let f (fn x 0) (g 1))", "11"), ("((rec f a (g a)) 1)", "11"), ("(let a 1 (let r 2 (pair a r)))", "(1, 2)"),
                    ("(let a 1 (r 3))", "5"), ("(let k r (let r 0 (k 3)))", "5"),
                    ("(fold (fn a (fn f (pair a (g f)))) 0 (cons 1 nil))", "(0, 11)")], before=before)

    def test_a_function_keeps_the_values_of_forms_around_it(self):
        before = [hold(0, "a", "5"), hold(0, "f", "(let a 7 (fn x (+ x a)))"), hold(1, "g", "((fn a (fn x (pair a x))) 9)"),
                  hold(0, "k", "(case (cons 1 (cons 2 nil)) 0 h t (fn x (pair h t)))")]
        self.check([("(f 1)", "8"), ("(let a 100 (f a))", "107"), ("(g a)", "(9, 5)"), ("(let a 1 (g a))", "(9, 1)"),
                    ("(let h 8 (let t 9 (k h)))", "(1, [2])")], before=before)

    def test_a_later_hold_of_a_name_that_a_function_binds(self):
        calls = [hold(0, "f", "(fn x (let y 2 (+ x y)))"), hold(0, "r", "(rec s n (if (= n 0) 1 (s (- n 1))))"), hold(0, "x", "100"),
                 hold(0, "y", "200"), hold(0, "n", "300"),
                 hold(0, "s", "(fn z 400)"), run(1, "(f 1)"), run(9, "(r 2)"), run(1, "(f x)")]
        self.assertEqual(ask(*calls), [0] * 6 + ["3", "1", "102"])

    def test_the_name_of_a_hold_is_not_bound_in_its_term(self):
        calls = [hold(0, "f", "(fn x (f x))"), held("f"), hold(0, "f", "(rec f x (if (= x 0) 1 (f (- x 1))))"), run(9, "(f 3)"),
                 run(9, "(let g f (let f 0 (g 3)))")]
        self.assertEqual(ask(*calls), [-5, -8, 0, "1", "1"])

    def test_held_functions_that_give_functions(self):
        before = [hold(0, "k", "(fn a (fn b (pair a b)))"), hold(1, "one", "(k 1)"), hold(1, "two", "(k 2)"), hold(1, "self", "((rec f x f) 1)")]
        self.check([("(pair (one 3) (two 4))", "((1, 3), (2, 4))"), ("(let a 7 (let b 8 (one a)))", "(1, 7)"), ("(((self 1) 2) 3)", "fn")],
                   before=before)


class LeavesTest(unittest.TestCase):
    """A refused call leaves the object as it was."""

    STATE = [base("m"), unit("km", "1000 m"), world("m", "1/2"), hold(5, "x", "5[km]"), hold(5, "f", "(fn y (+ x y))"), hold(5, "l", "(cons 1 nil)")]
    PROBES = [held("x"), held("f"), held("l"), held("z"), run(5, "(f 1[m])"), cost(5, "(f 1)"), run(5, "(pair l 1[km])"), run(5, "z"),
              run(5, "1[s]"), world("m", "3"),
              hold(5, "z", "1"), base("s"), unit("t", "3 s"), run(5, "(pair z 1[t])"), clear(), run(5, "x"), world("m", "3"), run(5, "1[km]")]
    ANSWERS = ["2500", "fn", "[1]", -8, "5001/2", (0, 1), "([1], 500)", -5, -6, -9, 0, 0, 0, "(1, 3)", 0, -5, 0, "3000"]
    REFUSED = [(base("M"), -1), (base("m"), -2), (base("km"), -2), (unit("Z", "m"), -1), (unit("m", "m"), -2), (unit("s", "?"), -4),
               (unit("s", "0 m"), -6),
               (unit("s", "2 q"), -5), (unit("t", "m^99.m"), -7), (world("s", "2"), -8), (world("km", "2"), -8), (world("m", "0"), -4),
               (world("m", "2"), -9),
               (run(-1, "1"), -1), (run(5, "("), -4), (run(5, "z"), -5), (run(5, "1[s]"), -6), (run(5, "1[m^99.m]"), -7),
               (run(5, "(^ (^ (^ 99999 5) 5) 9)"), 3), (run(5, "(/ x 0)"), 1), (run(0, "(f 1)"), 4), (run(5, "(let x 1 (x f))"), 6),
               (run(5, "(^ (^ (^ 999999999999 5) 5) 8)"), -10),
               (cost(1001, "1"), -1), (cost(5, ")"), -4), (cost(5, "z"), -5), (cost(5, "1[s]"), -6), (cost(5, "1[m^99.m]"), -7),
               (cost(5, "(pair (f 1) (/ x 0))"), (1, 1)),
               (hold(5, "let", "1"), -11), (hold(5, "Z", "1"), -11), (hold(5, "x", "1"), -2), (hold(5, "f", "1"), -2),
               (hold(-1, "z", "1"), -1), (hold(5, "z", "("), -4),
               (hold(5, "z", "z"), -5), (hold(5, "z", "1[s]"), -6), (hold(5, "z", "1[m^99.m]"), -7), (hold(5, "z", "(/ x 0)"), 1),
               (hold(5, "z", "(root -1)"), 2),
               (hold(0, "z", "(f 1)"), 4), (hold(5, "z", "(x 1)"), 6), (held("z"), -8), (held("km"), -8), (held(""), -8)]

    def test_call_by_call(self):
        self.assertEqual(ask(*self.STATE, *self.PROBES), [0] * 6 + self.ANSWERS)
        for call, answer in self.REFUSED:
            with self.subTest(call):
                found = ask(*self.STATE, call, *self.PROBES)
                self.assertEqual(found[6:], [answer] + self.ANSWERS)

    def test_all_of_them_together(self):
        found = ask(*self.STATE, *[call for call, answer in self.REFUSED], *self.PROBES)
        self.assertEqual(found[-len(self.PROBES):], self.ANSWERS)

    def test_a_full_object(self):
        bases = [base(name) for name in "abcdefgh"]
        units = [unit(f"u{k}", "2 a") for k in range(32)]
        full = bases + units + plain_holds(40)
        refused = [(base("i"), -3), (unit("v", "1"), -3), (hold(0, "more", "1"), -3), (world("a", "2"), -9)]
        probes = [held("more"), held("h39"), run(0, "1[i]"), run(0, "1[v]"), run(0, "1[u31]"), clear(), hold(0, "more", "1"), held("more")]
        self.assertEqual(ask(*full, *[call for call, answer in refused], *probes),
                         [0] * 80 + [answer for call, answer in refused] + [-8, "39", -6, -6, "2", 0, 0, "1"])


if __name__ == "__main__":
    unittest.main()
