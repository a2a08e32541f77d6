"""No value is held any more."""

import unittest

from tests.helper import ask, base, clear, cost, held, hold, plain_holds, run, unit, world


class ClearTest(unittest.TestCase):
    def test_clear_without_held_values(self):
        self.assertEqual(ask(clear(), clear()), [0, 0])

    def test_clear_leaves_the_book_and_the_world(self):
        calls = [base("m"), unit("km", "1000 m"), world("m", "1/2"), hold(0, "x", "1[km]"), clear(), run(0, "1[km]"), base("m"),
                 world("m", "3"), run(0, "1[km]")]
        self.assertEqual(ask(*calls), [0, 0, 0, 0, 0, "500", -2, 0, "3000"])

    def test_no_value_is_held(self):
        calls = [hold(0, "x", "7"), hold(0, "y", "true"), hold(0, "f", "(fn z x)"), run(1, "(pair (f 1) y)"), clear(), held("x"), held("y"),
                 held("f")]
        self.assertEqual(ask(*calls), [0, 0, 0, "(7, true)", 0, -8, -8, -8])

    def test_a_later_term_that_uses_one_is_refused(self):
        calls = [hold(0, "x", "7"), clear(), run(0, "x"), cost(0, "(+ x 1)"), hold(0, "y", "x"), run(0, "(fn y x)"), run(0, "(let x 1 x)"),
                 run(0, "(if true 1 x)")]
        self.assertEqual(ask(*calls), [0, 0, -5, -5, -5, -5, "1", -5])

    def test_names_are_free_again(self):
        calls = [hold(0, "x", "7"), hold(0, "x", "8"), clear(), hold(0, "x", "8"), held("x"), hold(0, "x", "9"), clear(),
                 hold(0, "x", "nil"), held("x")]
        self.assertEqual(ask(*calls), [0, -2, 0, 0, "8", -2, 0, 0, "[]"])

    def test_forty_more_values(self):
        calls = plain_holds(40) + [hold(0, "more", "1"), clear(), hold(0, "more", "1")] + plain_holds(39) + [hold(0, "h39", "1"),
                                                                                                             held("h38"), held("more")]
        self.assertEqual(ask(*calls), [0] * 40 + [-3, 0, 0] + [0] * 39 + [-3, "38", "1"])

    def test_the_world_may_be_set_again(self):
        calls = [base("m"), hold(0, "x", "1[m]"), hold(0, "f", "(fn y (* y 1[m]))"), world("m", "2"), run(1, "(f x)"), clear(),
                 world("m", "2"), run(0, "1[m]"),
                 hold(0, "x", "1[m]"), hold(0, "f", "(fn y (* y 1[m]))"), world("m", "3"), run(1, "(f x)"), held("x")]
        self.assertEqual(ask(*calls), [0, 0, 0, -9, "1", 0, 0, "2", 0, 0, -9, "4", "2"])

    def test_between_refused_calls(self):
        calls = [hold(0, "x", "1"), hold(0, "x", "("), clear(), hold(0, "x", "("), held("x"), clear(), held("x"), hold(0, "x", "1"), held("x")]
        self.assertEqual(ask(*calls), [0, -2, 0, -4, -8, 0, -8, 0, "1"])


if __name__ == "__main__":
    unittest.main()
