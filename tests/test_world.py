import unittest

from tests.helper import ask, base, clear, held, hold, last, run, unit, world


class WorldTest(unittest.TestCase):
    def test_factors(self):
        for factor, shown in [("1", "1"), ("100", "100"), ("2/7", "2/7"), ("999999", "999999"), ("000010/000004", "5/2"),
                              ("1/999999", "1/999999"), ("999999/999998", "999999/999998"), ("6/6", "1")]:
            with self.subTest(factor):
                self.assertEqual(ask(base("m"), world("m", factor), run(0, "1[m]")), [0, 0, shown])

    def test_a_factor_counts_from_now_on(self):
        calls = [base("m"), run(0, "1[m]"), world("m", "2"), run(0, "1[m]"), world("m", "3"), run(0, "1[m]")]
        self.assertEqual(ask(*calls), [0, "1", 0, "2", 0, "3"])

    def test_units_follow_the_world(self):
        calls = [base("m"), world("m", "1/2"), unit("km", "1000 m"), unit("ha", "10000 m^2")]
        self.assertEqual(ask(*calls, run(0, "3[km]"), world("m", "2"), run(0, "3[km]"), run(0, "1[ha/m^-1]")),
                         [0, 0, 0, 0, "1500", 0, "6000", "80000"])

    def test_numbers_without_measure_are_the_same_in_all_worlds(self):
        self.assertEqual(ask(base("m"), world("m", "7"), run(0, "5"), run(0, "5[1]"), run(0, "5[m^0]")),
                         [0, 0, "5", "5", "5"])

    def test_no_base_of_that_name(self):
        calls = [world("m", "2"), base("m"), unit("km", "m"), world("km", "2"), world("", "2"), world("M", "2"),
                 world("m ", "2"), world([255], "2")]
        self.assertEqual(ask(*calls), [-8, 0, 0, -8, -8, -8, -8, -8])

    def test_no_factors(self):
        for factor in ["", "0", "000000", "0/1", "1/0", "0/0", "1/000000", "1234567", "0000001", "1/1234567", "1234567/1",
                       "-1", "1.5", "1/", "/1", "/", "1/2/3", " 1", "1 ", "1 /2", "a", "+1", "1/-2", [49, 0], [178],
                       "1" * 10000]:
            with self.subTest(factor):
                self.assertEqual(ask(base("m"), world("m", "3"), world("m", factor), run(0, "1[m]")), [0, 0, -4, "3"])

    def test_a_held_value_keeps_the_world(self):
        for term in ["1", "1[m]", "true", "nil", "(pair 1 1)", "(fn x x)"]:
            with self.subTest(term):
                calls = [base("m"), world("m", "3"), hold(0, "x", term), world("m", "2"), run(0, "1[m]"), clear(), world("m", "2"), run(0, "1[m]")]
                self.assertEqual(ask(*calls), [0, 0, 0, -9, "3", 0, 0, "2"])

    def test_each_held_value_keeps_each_factor(self):
        calls = [base("m"), base("s"), hold(0, "x", "1[m]"), hold(0, "y", "1"), world("s", "2"), world("m", "1"), base("k"),
                 world("k", "2"), run(0, "1[m.s.k]")]
        self.assertEqual(ask(*calls), [0, 0, 0, 0, -9, -9, 0, -9, "1"])

    def test_what_was_not_held_keeps_no_world(self):
        calls = [base("m"), hold(0, "x", "(/ 1 0)"), hold(0, "x", "("), hold(0, "let", "1"), held("x"), run(0, "(let x 1 x)"),
                 world("m", "2"), run(0, "1[m]")]
        self.assertEqual(ask(*calls), [0, 1, -4, -11, -8, "1", 0, "2"])

    def test_order_of_refusals(self):
        before = [base("m"), unit("km", "m"), hold(0, "x", "1")]
        for name, factor, answer in [("s", "?", -8), ("s", "2", -8), ("km", "2", -8), ("x", "2", -8), ("", "2", -8), ("m", "?", -4),
                                     ("m", "0", -4), ("m", "1/0", -4),
                                     ("m", "1234567", -4), ("m", "1", -9), ("m", "2/7", -9)]:
            with self.subTest((name, factor)):
                self.assertEqual(last(*before, world(name, factor)), answer)
        self.assertEqual(last(base("m"), world("s", "?")), -8)

    def test_the_same_run_in_two_worlds(self):
        term = "(pair (/ 6[km] 3[m]) (pair (* 2[m] 3[s]) (cons (< 1[m] 1[s]) (cons (root 9[m^2]) nil))))"
        calls = [base("m"), base("s"), unit("km", "1000 m"), run(0, term), world("m", "2/7"), world("s", "1/9"),
                 run(0, term)]
        answers = ask(*calls)
        self.assertEqual(answers[3], "(2000, (6, [false, 3]))")
        self.assertEqual(answers[6], "(2000, (4/21, [false, 6/7]))")

    def test_no_world_changes_how_a_run_ends(self):
        loop = "((rec f x (if (< x 5[m]) (f (+ x 1[m])) (/ x 1[m]))) 1[m])"
        heavy = "((rec f x (f (* x x))) 3[m^9])"
        for factor in ["1", "999999", "1/999999", "2/7"]:
            with self.subTest(factor):
                calls = [base("m"), world("m", factor)]
                self.assertEqual(last(*calls, run(5, loop)), "5")
                self.assertEqual(last(*calls, run(4, loop)), 4)
                self.assertEqual(last(*calls, run(1000, heavy)), 3)


if __name__ == "__main__":
    unittest.main()
