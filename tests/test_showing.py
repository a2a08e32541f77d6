"""Value texts, and what is too long to tell."""

import unittest

from measuredterms.refusals import TooLong
from measuredterms.showing import value_text
from measuredterms.values import Cell, Number, Pair
from tests.helper import TEN_TO_999, TermCase, base, list_term, value, world


def pairs(count, inside):
    for k in range(count):
        inside = Pair(inside, True)
    return inside


def cells(count, first):
    found = None
    for k in range(count):
        found = Cell(first, found)
    return found


class ValueTextTest(TermCase):
    def test_numbers(self):
        self.check([("0", "0"), ("-5", "-5"), ("6/4", "3/2"), ("-6/4", "-3/2"), ("(/ 4 -6)", "-2/3"), ("(* 1/3 3)", "1"), ("(- 1/3 1/3)", "0"),
                    ("(/ 0 -7)", "0"), ("(+ 1/6 1/3)", "1/2"), ("(* 10 10)", "100")])

    def test_other_values(self):
        self.check([("true", "true"), ("false", "false"), ("nil", "[]"), ("(cons nil nil)", "[[]]"), ("(cons 1 (cons 2 (cons 3 nil)))", "[1, 2, 3]"),
                    ("(pair 1 2)", "(1, 2)"), ("(pair (pair 1 2) (pair 3 4))", "((1, 2), (3, 4))"), ("(fn x x)", "fn"), ("(rec f x x)", "fn"),
                    ("(cons (fn x x) (cons (pair nil true) nil))", "[fn, ([], true)]"), ("(pair (cons -1/2 nil) nil)", "([-1/2], [])"),
                    ("(cons (cons 1 (cons 2 nil)) (cons nil (cons (cons 3 nil) nil)))", "[[1, 2], [], [3]]"), ("(fst (pair (fn x x) 1))", "fn")])

    def test_a_thousand_digits(self):
        far = "1" + "0" * 999
        self.check([(TEN_TO_999, far), (f"(- 0 {TEN_TO_999})", "-" + far), (f"(* {TEN_TO_999} 9.999)", "9999" + "0" * 996),
                    (f"(* {TEN_TO_999} 10)", -10), (f"(* {TEN_TO_999} -10)", -10), (f"(^ {TEN_TO_999} -1)", "1/" + far),
                    (f"(- (* {TEN_TO_999} 10) 1)", "9" * 1000), (f"(/ 1 (* {TEN_TO_999} 10))", -10), (f"(/ -1 (* {TEN_TO_999} 10))", -10),
                    (f"(/ 1 (- (* {TEN_TO_999} 10) 1))", "1/" + "9" * 1000), (f"(/ {TEN_TO_999} (+ {TEN_TO_999} 1))", far + "/1" + "0" * 998 + "1"),
                    (f"(/ (+ 1 (* {TEN_TO_999} 10)) 7)", -10), (f"(/ 7 (+ 1 (* {TEN_TO_999} 10)))", -10)])

    def test_lowest_terms_count(self):
        self.check([(f"(let x (* {TEN_TO_999} 10) (/ x x))", "1"), (f"(let x (* {TEN_TO_999} 10) (/ (* x 2) (* x -6)))", "-1/3"),
                    (f"(/ (* {TEN_TO_999} 10) 10)", "1" + "0" * 999), (f"(/ (* {TEN_TO_999} 20) 4)", "5" + "0" * 999)])

    def test_one_long_number_is_enough(self):
        self.check([(f"(pair 1 (cons true (cons (* {TEN_TO_999} 10) nil)))", -10), (f"(fst (pair 1 (* {TEN_TO_999} 10)))", "1"),
                    (f"(let x (* {TEN_TO_999} 10) (fn y x))", "fn"), (f"(let x {TEN_TO_999} (pair x x))", "({0}, {0})".format("1" + "0" * 999))])

    def test_long_numbers_of_a_far_world(self):
        before = [base("m"), base("s"), world("m", "999983/999979"), world("s", "999961/999959")]
        far = "(^ (^ 1[m^99.s^99] 9) 9)"
        self.assertEqual(value(far, before=before), -10)
        self.assertEqual(value(f"(let x {far} (/ (* 3 x) (* 7 x)))", before=before), "3/7")
        self.assertEqual(value(f"(let x {far} (- (+ x 5/3) x))", before=before), "5/3")
        self.assertEqual(value(f"(let x {far} (/ (+ x 1) x))", before=before), -10)
        self.assertEqual(value("(let x (^ 1[m^99.s^99] 9) (/ (root (* x x)) x))", before=before), "1")

    def test_two_thousand_parts(self):
        # Twenty rounds of 99, and as many more as are wanted.
        step = "(cons 1 " * 33 + "r" + ")" * 33
        rounds = list_term(["1"] * 20)
        many = f"(let p (fn r {step}) (fold (fn r (fn e (p (p (p r))))) nil {rounds}))"
        for more, answer in [(19, "[" + ", ".join(["1"] * 1999) + "]"), (20, -10)]:
            longer = "(cons 1 " * more + "l" + ")" * more
            self.check([(f"(let l {many} {longer})", answer)])

    def test_what_counts_as_a_part(self):
        one = Number(1, 1, 1)
        a_pair = Pair(one, True)
        a_list = Cell(one, None)
        for told, fits in [(pairs(999, one), True), (pairs(999, None), True), (pairs(1000, one), False), (pairs(999, a_list), True),
                           (pairs(999, Cell(one, a_list)), False), (cells(1999, one), True), (cells(2000, one), False),
                           (cells(999, a_list), True), (cells(1000, a_list), False), (cells(666, a_pair), True), (cells(667, a_pair), False)]:
            with self.subTest(fits):
                if fits:
                    self.assertIsInstance(value_text(told), str)
                else:
                    self.assertRaises(TooLong, value_text, told)

    def test_shared_parts_are_counted_each_time(self):
        doubled = "(fold (fn r (fn e (pair r r))) 1 {})"
        self.assertEqual(len(value(doubled.format(list_term(["1"] * 9)))), 512 + 511 * 4)
        self.check([(doubled.format(list_term(["1"] * 10)), -10)])
        endless = "(let l {} (fold (fn a (fn x (fold (fn r (fn e (pair r r))) a l))) 1 l))".format(list_term(["1"] * 21))
        self.check([(endless, -10)])

    def test_deep_values_are_told(self):
        deep = "(let l {} (fold (fn a (fn x (fold (fn r (fn e (cons r nil))) a l))) nil l))".format(list_term(["1"] * 21))
        self.check([(deep, "[" * 442 + "]" * 442)])


if __name__ == "__main__":
    unittest.main()
