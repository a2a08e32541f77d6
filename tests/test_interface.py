import unittest

from measuredterms.world import answers
from tests.helper import ask, base, clear, list_term, row, run, split_answers, unit, world


def joined(*calls):
    return [number for call in calls for number in call]


class InterfaceTest(unittest.TestCase):
    def test_the_example_number_by_number(self):
        calls = [0, 1, 109,
                 1, 2, 107, 109, 6, 49, 48, 48, 48, 32, 109,
                 2, 1, 109, 3, 49, 47, 50,
                 3, 5, 14] + [ord(sign) for sign in "(+ 1[km] 1[m])"] + [7]
        self.assertEqual(answers(calls), [1, 0, 1, 0, 1, 0, 7, 0] + [ord(sign) for sign in "1001/2"] + [1, 0])

    def test_refusals_stand_alone(self):
        calls = joined(base(""), unit("u", "?"), world("m", "1"), run(-1, "1"), run(0, "(/ 1 0)"), run(0, "x"), run(0, ""))
        self.assertEqual(answers(calls), [1, -1, 1, -4, 1, -8, 1, -1, 1, 1, 1, -5, 1, -4])

    def test_empty_texts(self):
        self.assertEqual(answers([0, 0, 1, 0, 0, 2, 0, 0, 3, 0, 0, 7]), [1, -1, 1, -1, 1, -8, 1, -4, 1, 0])

    def test_long_texts(self):
        for byte in [0, 32, 40, 48, 49, 97, 255]:
            text = [byte] * 10000
            self.assertEqual(answers(joined([0] + row(text), run(0, "1"))), [1, -1, 2, 0, 49])
            self.assertEqual(answers(joined(base("m"), [1] + row("u") + row(text), run(0, "1"))), [1, 0, 1, -4, 2, 0, 49])
            self.assertEqual(answers(joined(base("m"), [2] + row("m") + row(text), run(0, "1"))), [1, 0, 1, -4, 2, 0, 49])
            self.assertEqual(answers(joined([3, 0] + row(text), run(0, "1"))), [1, -4, 2, 0, 49])

    def test_what_is_handed_in_stays_as_it_was(self):
        calls = joined(base("m"), unit("km", "1000 m"), world("m", "1/2"), run(5, "((fn x (cons x nil)) 1[km])"), clear(), run(0, "("))
        kept = list(calls)
        answers(calls)
        self.assertEqual(calls, kept)

    def test_nothing_is_kept_from_one_time_to_the_next(self):
        calls = joined(base("m"), unit("km", "1000 m"), world("m", "1/2"), run(5, "1[km]"), clear())
        first = answers(calls)
        self.assertEqual(answers(calls), first)
        self.assertEqual(answers(run(5, "1[m]")), [1, -6])
        first.append(5)
        self.assertEqual(answers(calls), first[:-1])

    def test_answers_are_plain_whole_numbers(self):
        found = answers(joined(base("m"), run(0, "true"), run(0, "(= 1 1)"), run(0, "x"), run(0, "1")))
        self.assertIs(found.__class__, list)
        for number in found:
            self.assertIs(number.__class__, int)

    def test_120_calls(self):
        self.assertEqual(ask(*[run(k, "1") for k in range(120)]), ["1"] * 120)

    def test_a_long_answer(self):
        thousand = "(* (^ (^ 100000000000 9) 9) (* (^ 100000000000 9) 1000000000))"
        step = "(cons (/ 1 x) " * 30 + "r" + ")" * 30
        term = f"(let x {thousand} (fold (fn r (fn e {step})) nil {list_term(['1'] * 30)}))"
        found = split_answers(answers(run(60, term)))[0]
        self.assertEqual(len(found), 1 + 900 * 1002 + 899 * 2 + 2)

    def test_calls_within_one_another_leave_room(self):
        # The deepest run there is must go well where the caller is some hundred calls deep itself.
        def deep(count, calls):
            return answers(calls) if count == 0 else deep(count - 1, calls)
        inside = "(+ 1 " * 36 + "1" + ")" * 36
        self.assertEqual(deep(300, run(1000, f"((rec f x (if (= x 0) {inside} (f (- x 1)))) 79)")), [3, 0, 51, 55])
        self.assertEqual(deep(300, run(1000, "((rec f x (f x)) 1)")), [1, 5])


if __name__ == "__main__":
    unittest.main()
