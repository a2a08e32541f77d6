import unittest

from measuredterms.world import answers
from tests.helper import TEN_TO_999, ask, base, clear, cost, held, hold, joined, list_term, run, split_answers, unit, world


def all_calls():
    """A list with every call, answered and refused."""
    return joined(base("m"), unit("km", "1000 m"), world("m", "1/2"), run(5, "((fn x (cons x nil)) 1[km])"), cost(5, "((fn x x) 1)"),
                  hold(5, "x", "(pair 1[km] nil)"),
                  hold(5, "f", "(fn y (cons y (snd x)))"), held("x"), run(5, "(f (f 1))"), cost(0, "(f 1)"), world("m", "2"), base("m"),
                  unit("km", "m"), hold(5, "x", "1"),
                  hold(5, "z", "(/ 1 0)"), held("z"), run(0, "("), cost(0, "q"), hold(-1, "z", "1"), clear(), held("x"), world("m", "2"),
                  run(0, "1[km]"))


class InterfaceTest(unittest.TestCase):
    def test_the_example_number_by_number(self):
        term = [14] + [ord(sign) for sign in "(+ 1[km] 1[m])"]
        calls = [0, 1, 109,
                 1, 2, 107, 109, 6, 49, 48, 48, 48, 32, 109,
                 2, 1, 109, 3, 49, 47, 50,
                 3, 5] + term + [4, 5] + term
        self.assertEqual(answers(calls), [1, 0, 1, 0, 1, 0, 7, 0, 49, 48, 48, 49, 47, 50, 2, 0, 0])

    def test_held_values_number_by_number(self):
        # hold with the budget 1 x of ((fn y y) 12); held x; cost 3 of (x x); clear; held x
        calls = [5, 1, 1, 120, 13] + [ord(sign) for sign in "((fn y y) 12)"] + [6, 1, 120, 4, 3, 5, 40, 120, 32, 120, 41, 7, 6, 1, 120]
        self.assertEqual(answers(calls), [1, 0, 3, 0, 49, 50, 2, 6, 0, 1, 0, 1, -8])

    def test_refusals_stand_alone(self):
        calls = joined(base(""), unit("u", "?"), world("m", "1"), run(-1, "1"), run(0, "(/ 1 0)"), run(0, "x"), run(0, ""), cost(-1, "1"),
                       cost(0, "x"), hold(0, "", "1"),
                       hold(0, "x", "(1 1)"), hold(0, "x", "x"), held("x"))
        self.assertEqual(answers(calls), [1, -1, 1, -4, 1, -8, 1, -1, 1, 1, 1, -5, 1, -4, 1, -1, 1, -5, 1, -11, 1, 6, 1, -5, 1, -8])

    def test_empty_texts(self):
        self.assertEqual(answers([0, 0, 1, 0, 0, 2, 0, 0, 3, 0, 0, 4, 0, 0, 5, 0, 0, 0, 6, 0, 7, 5, 0, 1, 120, 0]),
                         [1, -1, 1, -1, 1, -8, 1, -4, 1, -4, 1, -11, 1, -8, 1, 0, 1, -4])

    def test_long_texts(self):
        for byte in [0, 32, 40, 48, 49, 97, 255]:
            text = [byte] * 10000
            for before, call, answer in [([], base(text), -1), (base("m"), unit("u", text), -4), (base("m"), world("m", text), -4),
                                         ([], run(0, text), -4), ([], cost(0, text), -4),
                                         ([], hold(0, text, "1"), -11), ([], hold(0, "x", text), -4), ([], held(text), -8)]:
                self.assertEqual(answers(joined(before, call, run(0, "1")))[-5:], [1, answer, 2, 0, 49])

    def test_every_call_answered_and_refused(self):
        found = split_answers(answers(all_calls()))
        self.assertEqual(found[:6], [[0], [0], [0], [0] + [ord(sign) for sign in "[500]"], [0, 1], [0]])
        self.assertEqual(found[6:10], [[0], [0] + [ord(sign) for sign in "(500, [])"], [0] + [ord(sign) for sign in "[[1]]"], [4, 0]])
        self.assertEqual(found[10:], [[-9], [-2], [-2], [-2], [1], [-8], [-4], [-5], [-1], [0], [-8], [0], [0, 50, 48, 48, 48]])

    def test_what_is_handed_in_stays_as_it_was(self):
        calls = all_calls()
        answers(calls)
        self.assertEqual(calls, all_calls())

    def test_nothing_is_kept_from_one_time_to_the_next(self):
        calls = all_calls()
        first = answers(calls)
        self.assertEqual(answers(calls), first)
        self.assertEqual(answers(run(5, "1[m]")), [1, -6])
        first.append(5)
        self.assertEqual(answers(calls), first[:-1])
        held_at_the_end = joined(base("m"), world("m", "2"), hold(0, "x", "1[m]"))
        self.assertEqual(answers(held_at_the_end), [1, 0, 1, 0, 1, 0])
        self.assertEqual(answers(joined(held("x"), run(0, "x"), held_at_the_end)), [1, -8, 1, -5, 1, 0, 1, 0, 1, 0])

    def test_answers_are_plain_whole_numbers(self):
        found = answers(joined(base("m"), run(0, "true"), run(0, "(= 1 1)"), run(0, "x"), run(0, "1"), hold(0, "x", "true"), held("x"),
                               cost(0, "(if x x x)"), cost(0, "(x x)")))
        self.assertIs(found.__class__, list)
        for number in found:
            self.assertIs(number.__class__, int)

    def test_120_calls(self):
        self.assertEqual(ask(*[run(k, "1") for k in range(120)]), ["1"] * 120)
        self.assertEqual(ask(*[call for k in range(40) for call in (hold(0, f"x{k}", str(k)), held(f"x{k}"), cost(k, f"x{k}"))]),
                         [answer for k in range(40) for answer in (0, str(k), (0, 0))])

    def test_a_long_answer(self):
        step = "(cons (/ 1 x) " * 30 + "r" + ")" * 30
        term = f"(let x {TEN_TO_999} (fold (fn r (fn e {step})) nil {list_term(['1'] * 30)}))"
        found = split_answers(answers(run(60, term)))[0]
        self.assertEqual(len(found), 1 + 900 * 1002 + 899 * 2 + 2)

    def test_calls_within_one_another_leave_room(self):
        # The deepest run there is must go well where the caller is some hundred calls deep itself.
        def deep(count, calls):
            return answers(calls) if count == 0 else deep(count - 1, calls)
        inside = "(+ 1 " * 36 + "1" + ")" * 36
        self.assertEqual(deep(300, run(1000, f"((rec f x (if (= x 0) {inside} (f (- x 1)))) 79)")), [3, 0, 51, 55])
        self.assertEqual(deep(300, run(1000, "((rec f x (f x)) 1)")), [1, 5])
        self.assertEqual(deep(300, joined(hold(0, "g", "(rec f x (f x))"), hold(1000, "x", "(g 1)"), cost(1000, "(g 1)"))), [1, 0, 1, 5, 2, 5, 160])


if __name__ == "__main__":
    unittest.main()
