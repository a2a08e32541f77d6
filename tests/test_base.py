import unittest

from tests.helper import ask, base, last, run, unit, world


def eight_bases():
    return [base(name) for name in "abcdefgh"]


class BaseTest(unittest.TestCase):
    def test_a_base_is_worth_its_factor_which_is_1(self):
        self.assertEqual(ask(base("m"), run(0, "5[m^2]")), [0, "5"])

    def test_each_base_has_a_power_of_its_own(self):
        calls = [base("m"), base("s"), world("m", "2"), world("s", "3")]
        self.assertEqual(last(*calls, run(0, "1[m^3/s^2]")), "8/9")

    def test_a_later_base_has_the_factor_1_whatever_the_others_have(self):
        self.assertEqual(last(base("m"), world("m", "7"), base("s"), run(0, "1[m.s]")), "7")

    def test_measure_names(self):
        for name in ["a", "z", "a1", "a_", "z_9a", "abcdefghijkl", "fn", "nil", "in", "rest", "base"]:
            with self.subTest(name):
                self.assertEqual(ask(base(name), run(0, f"2[{name}]")), [0, "2"])

    def test_no_measure_names(self):
        bad = ["", "A", "aB", "1", "1a", "_", "_a", "a-b", "a b", " a", "a ", "a^2", "abcdefghijklm",
               "a" * 10000, [0], [97, 0], [97, 128], [225], [255], [96], [123], "a?", "a/b", "a\n"]
        for name in bad:
            with self.subTest(name):
                self.assertEqual(ask(base(name)), [-1])

    def test_a_name_that_is_in_the_book(self):
        self.assertEqual(ask(base("m"), base("m")), [0, -2])
        self.assertEqual(ask(base("m"), unit("km", "1000 m"), base("km")), [0, 0, -2])

    def test_eight_bases_and_no_more(self):
        self.assertEqual(ask(*eight_bases(), base("i"), run(0, "1[i]"), run(0, "1[h]")),
                         [0] * 8 + [-3, -6, "1"])

    def test_forty_bases_and_units_and_no_more(self):
        units = [unit(f"u{k}", "1") for k in range(38)]
        self.assertEqual(ask(*units, base("m"), base("s"), base("t"), run(0, "1[t]")), [0] * 40 + [-3, -6])

    def test_order_of_refusals(self):
        full = eight_bases()
        self.assertEqual(last(*full, base("A")), -1)
        self.assertEqual(last(*full, base("a")), -2)
        self.assertEqual(last(*full, base("i")), -3)

    def test_a_refused_base_changes_nothing(self):
        calls = [base("m"), world("m", "3"), base("m"), run(0, "1[m]"), base("M"), base("s"), world("s", "5")]
        self.assertEqual(ask(*calls, run(0, "1[m.s]")), [0, 0, -2, "3", -1, 0, 0, "15"])


if __name__ == "__main__":
    unittest.main()
