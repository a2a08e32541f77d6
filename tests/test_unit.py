import unittest

from tests.helper import ask, base, last, run, unit, world


def ratio_of(quantity, *before):
    """What 1 of a unit of that quantity is in the plain world, or the unit's refusal."""
    answers = ask(base("m"), base("s"), *before, unit("u", quantity), run(0, "1[u]"))
    return answers[-1] if answers[-2] == 0 else answers[-2]


class UnitTest(unittest.TestCase):
    def test_numbers_and_measures(self):
        rows = [("m", "1"), ("1", "1"), ("1000 m", "1000"), ("1/2 m", "1/2"), ("0.50 m", "1/2"), ("1 1", "1"),
                ("2 1.m", "2"), ("007 m", "7"), ("6/4 m", "3/2"), ("12.5 m^2/s", "25/2"), ("0.0010 1", "1/1000"),
                ("1/m", "1"), ("1.m", "1"), ("5/1 1/1", "5")]
        for quantity, ratio in rows:
            with self.subTest(quantity):
                self.assertEqual(ratio_of(quantity), ratio)

    def test_units_of_units(self):
        calls = [base("m"), unit("km", "1000 m"), unit("area", "2 km^2"), unit("per", "1/area"), unit("back", "3 /area")]
        self.assertEqual(ask(*calls, run(0, "1[area]"), run(0, "1[per]")), [0, 0, 0, 0, -4, "2000000", "1/2000000"])

    def test_powers_are_the_measures(self):
        calls = [base("m"), base("s"), unit("v", "2 m/s"), unit("a", "3 v/s.m^2"), world("m", "5"), world("s", "7")]
        self.assertEqual(last(*calls, run(0, "1[v]")), "10/7")
        self.assertEqual(last(*calls, run(0, "1[a]")), "750/49")
        self.assertEqual(last(*calls, run(0, "1[a^-1.v^2]")), "2/15")

    def test_a_divided_power_turns_its_sign_and_that_of_no_other(self):
        calls = [base("m"), base("s"), world("m", "5"), world("s", "7")]
        for measure, ratio in [("1/m^-2.s", "175"), ("m/s^-1", "35"), ("m/s.s", "5"), ("m/s/s", "5/49"), ("m^0", "1"),
                               ("m^-0/s^00", "1"), ("m^02", "25"), ("m^-02", "1/25"), ("1/1/m.1", "1/5")]:
            with self.subTest(measure):
                self.assertEqual(last(*calls, unit("u", measure), run(0, "1[u]")), ratio)

    def test_a_later_base_has_the_power_0(self):
        self.assertEqual(last(base("m"), unit("u", "2 m"), base("s"), world("s", "7"), run(0, "1[u]")), "2")

    def test_no_name(self):
        for name in ["", "A", "1", "abcdefghijklm", "a b", [200]]:
            with self.subTest(name):
                self.assertEqual(ask(unit(name, "1")), [-1])
        self.assertEqual(ask(unit("abcdefghijkl", "1"), unit("let", "1")), [0, 0])

    def test_a_name_that_is_in_the_book(self):
        self.assertEqual(ask(base("m"), unit("m", "1"), unit("u", "1"), unit("u", "2")), [0, -2, 0, -2])

    def test_forty_bases_and_units_and_no_more(self):
        units = [unit(f"u{k}", "1") for k in range(39)]
        self.assertEqual(ask(base("m"), *units, unit("v", "1"), run(0, "1[v]")), [0] * 40 + [-3, -6])

    def test_texts_not_of_the_form(self):
        bad = ["", " ", "2", "1000", "-1", "m ", " m", "5 m ", "5  m", "5 ", "5m", "--5 m", "+5 m", "-m", "5. m", ".5 m",
               "5/ m", "/5 m", "5/0 m", "5/000 m", "1/2/3 m", "1.2.3 m", "1/2.5 m", "5/-2 m", "- m", "5 m s", "m s",
               "M", "m.", "m/", "/m", ".m", "m..s", "m//s", "m./s", "m/.s", "m^", "m^-", "m^--1", "m^123", "m^+1",
               "m^1.5^", "1^2", "2.m", "10", "m^1^2", "11.m", "m*s", "abcdefghijklm", "5 abcdefghijklm", "m\n", "5\tm",
               "1_000 m", "m.-s", "(m)", [109, 0], [49, 32, 109, 46, 200], "5,0 m", "m^ 2"]
        for quantity in bad:
            with self.subTest(quantity):
                self.assertEqual(ratio_of(quantity), -4)

    def test_number_texts_of_90_signs(self):
        self.assertEqual(ratio_of("0" * 89 + "5 m"), "5")
        self.assertEqual(ratio_of("0" * 90 + "5 m"), -4)
        self.assertEqual(ratio_of("0" * 44 + "5." + "0" * 44 + " m"), "5")
        self.assertEqual(ratio_of("0" * 44 + "5." + "0" * 45 + " m"), -4)
        self.assertEqual(ratio_of("-" + "0" * 88 + "5 m"), -6)
        self.assertEqual(ratio_of("-" + "0" * 89 + "5 m"), -4)

    def test_number_texts_at_10_to_the_40(self):
        far = "1" + "0" * 40
        self.assertEqual(ratio_of("9" * 40 + " m"), "9" * 40)
        self.assertEqual(ratio_of(far + " m"), -4)
        self.assertEqual(ratio_of("-" + "9" * 40 + " m"), -6)
        self.assertEqual(ratio_of("-" + far + " m"), -4)
        self.assertEqual(ratio_of("1/" + "9" * 40 + " m"), "1/" + "9" * 40)
        self.assertEqual(ratio_of("1/" + far + " m"), -4)
        self.assertEqual(ratio_of("0." + "0" * 38 + "1 m"), "1/1" + "0" * 39)
        self.assertEqual(ratio_of("0." + "0" * 39 + "1 m"), -4)

    def test_lowest_terms_count(self):
        far = "2" + "0" * 40
        self.assertEqual(ratio_of(far + "/4 m"), "5" + "0" * 39)
        self.assertEqual(ratio_of("4/" + far + " m"), "1/5" + "0" * 39)
        self.assertEqual(ratio_of(far + "/2 m"), -4)
        self.assertEqual(ratio_of("0." + "0" * 39 + "2 m"), "1/5" + "0" * 39)
        self.assertEqual(ratio_of("7" * 44 + "/" + "7" * 44 + " m"), "1")

    def test_twenty_factors(self):
        self.assertEqual(ratio_of(".".join(["1"] * 20)), "1")
        self.assertEqual(ratio_of(".".join(["1"] * 21)), -4)
        self.assertEqual(ratio_of("2 " + "/".join(["m"] * 20)), "2")
        self.assertEqual(ratio_of("2 " + "/".join(["m"] * 21)), -4)

    def test_long_texts(self):
        longest = "0" * 89 + "5 " + "/".join(["abcdefghijkl^-02"] * 20)
        self.assertEqual(len(longest), 430)
        self.assertEqual(ratio_of(longest, base("abcdefghijkl")), "5")
        self.assertEqual(ratio_of(".".join(["1"] * 251)), -4)
        self.assertEqual(ratio_of("1" * 10000), -4)

    def test_numbers_not_above_0(self):
        for number in ["0", "-0", "0/5", "0.000", "-1", "-1/2", "-0.5", "-0/1"]:
            with self.subTest(number):
                self.assertEqual(ratio_of(number + " m"), -6)

    def test_unknown_names(self):
        for quantity in ["x", "2 x", "m.x", "m/x^0", "u", "2 u^2"]:
            with self.subTest(quantity):
                self.assertEqual(ratio_of(quantity), -5)

    def test_ratios_at_10_to_the_40(self):
        big = unit("big", "1" + "0" * 39 + " m")
        tiny = unit("tiny", "1/1" + "0" * 39 + " m")
        self.assertEqual(ratio_of("9.9 big", big), "99" + "0" * 38)
        self.assertEqual(ratio_of("10 big", big), -7)
        self.assertEqual(ratio_of("10/9 big", big), -7)
        self.assertEqual(ratio_of("1/9 tiny", tiny), "1/9" + "0" * 39)
        self.assertEqual(ratio_of("1/10 tiny", tiny), -7)
        self.assertEqual(ratio_of("0.1 tiny", tiny), -7)

    def test_only_the_whole_worth_can_be_too_far(self):
        big = unit("big", "1" + "0" * 39 + " 1")
        self.assertEqual(ratio_of("big^99/big^98", big), "1" + "0" * 39)
        self.assertEqual(ratio_of("big^2", big), -7)
        self.assertEqual(ratio_of("1/1" + "0" * 39 + " big^2", big), "1" + "0" * 39)
        self.assertEqual(ratio_of("big^99.big^99.big^99/big^99/big^99/big^99", big), "1")

    def test_long_products_that_come_down_again(self):
        units = [unit("p", "3/7 1"), unit("q", "7/3 1"), unit("r", "9/49 1"), unit("t", "1" + "0" * 38 + "3/7 1")]
        self.assertEqual(ratio_of(".".join(["p^99"] * 10 + ["q^99"] * 10), *units), "1")
        self.assertEqual(ratio_of("p^99.p^99/r^99.p^5", *units), "243/16807")
        self.assertEqual(ratio_of("t^99.t^99.t^99/t^99/t^99/t^98", *units), "1" + "0" * 38 + "3/7")
        self.assertEqual(ratio_of("t^99.t^99.t^99/t^99/t^99/t^97", *units), -7)

    def test_powers_at_99(self):
        for measure in ["m^99", "m^-99", "1/m^99", "m^98.m", "m^99.m^99/m^99", "m^-99.s^99"]:
            with self.subTest(measure):
                self.assertEqual(ratio_of(measure), "1")
        for measure in ["m^99.m", "m^-99/m", "1/m^99/m", "s.m^50.m^50", "m^99.s^-50.s^-50"]:
            with self.subTest(measure):
                self.assertEqual(ratio_of(measure), -7)

    def test_order_of_refusals(self):
        full = [unit(f"u{k}", "1") for k in range(40)]
        self.assertEqual(last(*full, unit("U", "?")), -1)
        self.assertEqual(last(*full, unit("u0", "?")), -2)
        self.assertEqual(last(*full, unit("v", "?")), -3)
        self.assertEqual(last(unit("v", "0 x.")), -4)
        self.assertEqual(last(unit("v", "-1 x." + ".".join(["1"] * 20))), -4)
        self.assertEqual(last(unit("v", "0 x")), -6)
        self.assertEqual(last(base("m"), unit("v", "0 m^99.m")), -6)
        self.assertEqual(last(base("m"), unit("v", "1 m^99.m.x")), -5)
        self.assertEqual(last(base("m"), unit("v", "1 m^99.m")), -7)

    def test_a_refused_unit_changes_nothing(self):
        calls = [base("m"), unit("u", "0 m"), unit("u", "x"), unit("u", "m^99.m"), unit("u", "?"), run(0, "1[u]")]
        self.assertEqual(ask(*calls, unit("u", "3 m"), unit("u", "4 m"), run(0, "1[u]")),
                         [0, -6, -5, -7, -4, -6, 0, -2, "3"])


if __name__ == "__main__":
    unittest.main()
