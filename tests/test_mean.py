"""mean: refusals, how lines are counted, how a run stands, operations at their edges, variables and calls."""

import time
import unittest

from helpers import LEAST, MOST, text_of, text_without_last_feed
from linewords.texts import mean


class MeanCase(unittest.TestCase):
    def means(self, expected, n, rows, given=()):
        self.assertEqual(mean(n, text_of(*rows), list(given)), expected, (n, rows, given[:9]))
        if rows and rows[-1]:
            self.assertEqual(mean(n, text_without_last_feed(*rows), list(given)), expected, (n, rows, given[:9]))

    def ends(self, put, rows, given=()):
        self.means([0, 0] + put, 20000, rows, given)

    def counts(self, lines, rows, given=()):
        """The program ends behind just so many lines, each of which can be run."""
        for n in range(lines):
            self.assertEqual(mean(n, text_of(*rows), list(given))[:2], [7, 0], (n, rows))
        for n in (lines, lines + 1, 20000):
            self.assertEqual(mean(n, text_of(*rows), list(given))[:2], [0, 0], (n, rows))


class Examples(MeanCase):
    ROWS = ("get a", "while a", "put a", "set a - a 1", "end", "put / 7 a")

    def test_with_a_number(self):
        self.means([2, 6, 2, 1], 100, self.ROWS, [2])

    def test_without_numbers(self):
        self.means([6, 0], 100, self.ROWS)


class Refusals(MeanCase):
    def test_n(self):
        self.means([0, 0, 1], 20000, ["put 1"])
        for n in (20001, 20002, 2 ** 31, 4294967295):
            self.means([-3], n, ["put 1"])

    def test_numbers_given(self):
        for number in (LEAST, LEAST + 1, -1, 0, 1, MOST - 1, MOST):
            self.means([0, 0, number], 2, ["get a", "put a"], [number])
            self.means([0, 0], 2, ["stop"], [1, number, 2])
        for number in (LEAST - 1, LEAST - 2, MOST + 1, MOST + 2, 2 ** 64 - 1, 1 - 2 ** 64, 2 ** 64 - 2):
            for given in ([number], [number, 1], [1, 2, number], [1] * 4999 + [number]):
                self.means([-3], 2, ["get a", "put a"], given)
                self.means([-3], 0, ["stop"], given)

    def test_first_of_all(self):
        for text in (text_of("x"), text_of("while 1"), [10] * 16385, [255] * 16500):
            self.assertEqual(mean(20001, text, []), [-3])
            self.assertEqual(mean(0, text, [MOST + 1]), [-3])
            self.assertEqual(mean(20001, text, [LEAST - 1]), [-3])
            self.assertEqual(mean(20000, text, [MOST]), [-9])

    def test_wrong_texts(self):
        for rows in (["x"], ["end"], ["else"], ["put"], ["put - 5"], ["if 1"], ["while 1"], ["proc A"], ["do A"],
                     ["if 1", "else", "else", "end"], ["put 1", "put 1 2"], ["stop", "x"], ["put " + "1" * 19],
                     ["if 0", "x", "end"], ["proc A", "end", "proc A", "end"], ["# " + "w " * 60],
                     ["if 1"] * 41 + ["end"] * 41, ["do A 1", "proc A", "end"], ["get 1"], ["set a"]):
            for n in (0, 1, 20000):
                self.means([-9], n, rows)
                self.means([-9], n, rows, [1, 2])

    def test_long_texts(self):
        for byte in (10, 35):
            self.assertEqual(mean(20000, [byte] * 16384, []), [0, 0])
            self.assertEqual(mean(20000, [byte] * 16385, []), [-9])
            self.assertEqual(mean(0, [byte] * 16500, []), [-9])

    def test_many_numbers(self):
        given = list(range(5000))
        self.means([6, 0] + given, 20000, ["while 1", "get a", "put a", "get a", "put a", "end"], given)


class Counting(MeanCase):
    def test_nothing_run(self):
        self.means([0, 0], 0, ["stop"])
        self.assertEqual(mean(0, [], []), [0, 0])
        self.means([6, 0], 0, ["get a"])
        self.means([7, 0], 0, ["get a"], [1])
        self.means([2, 1], 0, ["put / 1 0"])
        self.means([2, 1], 0, ["while % 1 0", "end"])
        self.means([1, 1], 0, ["set a * " + "9" * 18 + " 99"])
        for rows in (["put 1"], ["set a 1"], [" "], ["#"], ["if 0", "end"], ["while 0", "end"], ["proc A", "end"],
                     ["do A", "proc A", "end"]):
            self.means([7, 0], 0, rows)

    def test_each_kind_of_line(self):
        self.counts(1, ["put 1"])
        self.counts(1, ["set a 1"])
        self.counts(1, ["get a"], [1])
        self.counts(1, ["#"])
        self.counts(1, [" "])
        self.counts(3, ["", "", ""])
        self.counts(0, ["stop"])
        self.counts(2, ["put 1", "#", "stop", "put 2"])

    def test_if(self):
        self.counts(2, ["if 1", "end"])
        self.counts(1, ["if 0", "end"])
        self.counts(3, ["if 1", "put 1", "end"])
        self.counts(1, ["if 0", "put 1", "end"])
        self.counts(2, ["if 0", "put 1", "end", "put 2"])

    def test_else(self):
        self.counts(2, ["if 1", "else", "end"])
        self.counts(2, ["if 0", "else", "end"])
        self.counts(3, ["if 1", "put 1", "else", "put 2", "put 3", "end"])
        self.counts(4, ["if 0", "put 1", "else", "put 2", "put 3", "end"])
        self.counts(4, ["if 1", "#", "else", "put 2", "put 3", "end", "put 4"])

    def test_while(self):
        self.counts(1, ["while 0", "end"])
        self.counts(1, ["while 0", "put 1", "end"])
        self.counts(1 + 3 * 3 + 1, ["set a 3", "while a", "set a - a 1", "end"])
        self.counts(1 + 3 * 2 + 1 + 1, ["set a 2", "while a", "set a - a 1", "end", "put 1"])

    def test_proc_and_do(self):
        self.counts(1, ["proc A", "end"])
        self.counts(1, ["proc A", "put 1", "put 2", "end"])
        self.counts(3, ["proc A", "end", "do A"])
        self.counts(4, ["do A", "proc A", "put 1", "end"])
        self.counts(5, ["do A", "put 2", "proc A", "put 1", "end"])

    def test_just_before_and_behind(self):
        rows = ["get a", "if a", "put 1", "else", "put 2", "end", "put 3"]
        for n, put in enumerate([[], [], [], [1], [1], [1, 3]]):
            self.means([0 if n == 5 else 7, 0] + put, n, rows, [5])
        for n, put in enumerate([[], [], [], [2], [2], [2, 3]]):
            self.means([0 if n == 5 else 7, 0] + put, n, rows, [0])
        rows = ["do A 1", "put 9", "proc A b", "put b", "end"]
        for n, put in enumerate([[], [], [1], [1], [1, 9], [1, 9]]):
            self.means([0 if n == 5 else 7, 0] + put, n, rows)

    def test_large_n(self):
        for n in (1, 2, 100, 19999, 20000):
            self.means([0, 0, 4], n, ["put 4"])
        self.means([7, 0], 20000, ["while 1", "end"])
        self.means([7, 0] + [1] * 6667, 20000, ["while 1", "put 1", "end"])


class Standing(MeanCase):
    def test_ended(self):
        self.assertEqual(mean(0, [], []), [0, 0])
        self.assertEqual(mean(20000, [], [1]), [0, 0])
        self.means([0, 0, 1], 1, ["put 1"])
        self.means([0, 0, 1], 1, ["put 1", "stop", "put 2"])
        self.means([0, 0], 2, ["if 1", "stop", "end", "put 1"])
        self.means([0, 0], 1, ["if 1", "stop", "end", "put 1"])
        self.ends([], ["stop", "put / 1 0"])

    def test_a_last_line_that_does_nothing_is_a_line(self):
        self.means([7, 0, 1], 1, ["put 1", "#"])
        self.means([0, 0, 1], 2, ["put 1", "#"])
        self.assertEqual(mean(1, text_of("put 1"), []), [0, 0, 1])
        self.assertEqual(mean(1, text_of("put 1", ""), []), [7, 0, 1])
        self.assertEqual(mean(1, text_of("put 1") + [32], []), [7, 0, 1])

    def test_a_line_that_does_nothing_works_nothing_out(self):
        self.ends([1], ["# / 1 0", "put 1", "# +", "#stop", "# get a", "#proc A", "# do A / 1 0", "#end"])

    def test_stop_within_a_procedure(self):
        self.ends([1], ["do A", "put 2", "proc A", "put 1", "stop", "end"])
        self.ends([1], ["proc A", "if 1", "put 1", "stop", "end", "end", "while 1", "do A", "end"])

    def test_gone_wrong(self):
        for row, standing in (("+ 1 a", 1), ("- -2 a", 1), ("* 2 a", 1), ("/ 1 b", 2), ("% 1 b", 2)):
            for line in ("put ", "set c ", "if ", "while ", "do A "):
                end = ["end"] if line in ("if ", "while ") else []
                rows = ["get a", "", line + row] + end + ["proc A x", "end"]
                for n in (2, 3, 100):
                    self.means([standing, 3], n, rows, [MOST])
                self.means([7, 0], 1, rows, [MOST])

    def test_what_was_put_before_stays(self):
        self.means([2, 3, 1, 2], 100, ["put 1", "put 2", "put / 1 0", "put 3"])
        self.means([1, 2, 7], 100, ["put 7", "set a * " + "9" * 18 + " 10", "put 8"])

    def test_the_line_within_a_procedure(self):
        self.means([2, 4], 100, ["do A", "proc A", "", "put / 1 0", "end"])
        self.means([2, 1], 100, ["do A / 1 0", "proc A a", "end"])

    def test_line_numbers_above_255(self):
        self.assertEqual(mean(20000, [10] * 16000 + text_of("put / 1 0"), []), [2, 16001])

    def test_waiting(self):
        self.means([6, 0], 100, ["get a"])
        self.means([6, 0, 5], 100, ["get a", "put a", "get a", "put a"], [5])
        self.means([6, 0], 1, ["get a", "get b"], [5])
        self.means([6, 0], 2, ["do A", "proc A", "get x", "end"])

    def test_a_next_line_is_told_before_it_is_run(self):
        self.means([7, 0], 0, ["put 1", "put / 1 0"])
        self.means([2, 2, 1], 1, ["put 1", "put / 1 0"])
        self.means([6, 0, 1], 1, ["put 1", "get a"])
        self.means([0, 0, 1], 1, ["put 1", "stop"])
        self.means([7, 0], 1, ["while 1", "end"])
        self.means([3, 2], 400, ["proc A", "do A", "end", "do A"])

    def test_an_end_stands_before_its_test(self):
        rows = ["get a", "while / 6 a", "set a - a 1", "end"]
        self.means([7, 0], 3, rows, [1])
        self.means([2, 2], 4, rows, [1])
        self.means([2, 2], 20000, rows, [1])


class Operations(MeanCase):
    def result(self, sign, a, b, value):
        self.means([0, 0, value], 3, ["get a", "get b", f"put {sign} a b"], [a, b])

    def wrong(self, sign, a, b, standing):
        self.means([standing, 3], 3, ["get a", "get b", f"put {sign} a b"], [a, b])

    def test_add(self):
        self.result("+", 2, 3, 5)
        self.result("+", MOST - 1, 1, MOST)
        self.result("+", LEAST + 1, -1, LEAST)
        self.result("+", MOST, LEAST, -1)
        self.result("+", MOST, 0, MOST)
        self.wrong("+", MOST, 1, 1)
        self.wrong("+", 1, MOST, 1)
        self.wrong("+", LEAST, -1, 1)
        self.wrong("+", MOST, MOST, 1)
        self.wrong("+", LEAST, LEAST, 1)

    def test_sub(self):
        self.result("-", 2, 3, -1)
        self.result("-", LEAST, 0, LEAST)
        self.result("-", LEAST, LEAST, 0)
        self.result("-", -1, LEAST, MOST)
        self.result("-", -1, MOST, LEAST)
        self.wrong("-", 0, LEAST, 1)
        self.wrong("-", -2, MOST, 1)
        self.wrong("-", LEAST, 1, 1)
        self.wrong("-", MOST, -1, 1)

    def test_mul(self):
        self.result("*", -4, 3, -12)
        self.result("*", MOST, 1, MOST)
        self.result("*", LEAST, 1, LEAST)
        self.result("*", MOST, -1, -MOST)
        self.result("*", 2 ** 31, -2 ** 32, LEAST)
        self.result("*", LEAST, 0, 0)
        self.wrong("*", LEAST, -1, 1)
        self.wrong("*", -1, LEAST, 1)
        self.wrong("*", 2 ** 31, 2 ** 32, 1)
        self.wrong("*", 2 ** 32, 2 ** 32, 1)
        self.wrong("*", LEAST, LEAST, 1)
        self.wrong("*", 3037000500, 3037000500, 1)

    def test_div(self):
        for a, b, value in ((7, 2, 3), (-7, 2, -3), (7, -2, -3), (-7, -2, 3), (6, 3, 2), (-6, 3, -2), (1, 2, 0),
                            (-1, 2, 0), (1, -2, 0), (0, 5, 0), (0, -5, 0), (LEAST, 1, LEAST), (MOST, -1, -MOST),
                            (LEAST, 2, -2 ** 62), (LEAST, MOST, -1), (MOST, LEAST, 0), (LEAST, LEAST, 1),
                            (MOST, 2, 2 ** 62 - 1), (MOST, MOST - 1, 1), (LEAST + 1, 3, -3074457345618258602)):
            self.result("/", a, b, value)
        self.wrong("/", LEAST, -1, 1)
        for a in (LEAST, -1, 0, 1, MOST):
            self.wrong("/", a, 0, 2)

    def test_mod(self):
        for a, b, value in ((7, 2, 1), (-7, 2, -1), (7, -2, 1), (-7, -2, -1), (6, 3, 0), (-6, 3, 0), (1, 2, 1),
                            (-1, 2, -1), (0, 5, 0), (LEAST, -1, 0), (LEAST, 1, 0), (LEAST, MOST, -1),
                            (MOST, LEAST, MOST), (LEAST, LEAST, 0), (LEAST, 10, -8), (MOST, 10, 7), (MOST, -10, 7)):
            self.result("%", a, b, value)
        for a in (LEAST, -1, 0, 1, MOST):
            self.wrong("%", a, 0, 2)

    def test_comparisons(self):
        numbers = (LEAST, -1, 0, 1, MOST)
        for a in numbers:
            for b in numbers:
                self.result("<", a, b, 1 if a < b else 0)
                self.result("=", a, b, 1 if a == b else 0)

    def test_not(self):
        for a in (LEAST, -1, 0, 1, 2, MOST):
            self.means([0, 0, 1 if a == 0 else 0], 2, ["get a", "put ! a"], [a])
            self.means([0, 0, 0 if a == 0 else 1], 2, ["get a", "put ! ! a"], [a])

    def test_numbers(self):
        self.ends([0, 0, -5, 7, 10 ** 18 - 1, 1 - 10 ** 18],
                  ["put 0", "put -0", "put -005", "put 007", "put " + "9" * 18, "put -" + "9" * 18])

    def test_operands_in_order(self):
        self.ends([3], ["put - - 10 5 2"])
        self.ends([7], ["put - 10 - 5 2"])
        self.ends([2], ["put / 20 / 20 2"])
        self.ends([-4], ["put + * 2 3 - 0 10"])

    def test_the_left_fault_counts_first(self):
        large = "* " + "9" * 18 + " 99"
        self.means([1, 1], 1, [f"put + {large} / 1 0"])
        self.means([2, 1], 1, [f"put + / 1 0 {large}"])
        self.means([2, 1], 1, [f"put + 1 + % 1 0 {large}"])
        self.means([1, 1], 1, [f"do A {large} / 1 0", "proc A a b", "end"])
        self.means([2, 1], 1, [f"do A / 1 0 {large}", "proc A a b", "end"])

    def test_the_right_operand_is_worked_out_first(self):
        large = "* " + "9" * 18 + " 99"
        self.means([1, 1], 1, [f"put / 1 * 0 {large}"])
        self.means([1, 1], 1, [f"put * 0 {large}"])
        self.means([2, 1], 1, ["put + " + "9" * 18 + " / 1 0"])
        self.means([2, 1], 1, ["put = 1 % 1 0"])
        self.means([2, 1], 1, ["put ! / 0 0"])
        self.means([2, 3], 3, ["get a", "get b", "put + a / b 0"], [MOST, MOST])

    def test_no_comparison_is_a_truth(self):
        for row in ("put < 1 2", "put = 1 1", "put ! 0", "put < 2 1", "put = 1 2", "put ! 1"):
            self.assertEqual([type(number) for number in mean(1, text_of(row), [])], [int] * 3)


class Conditions(MeanCase):
    def test_any_number_but_0_holds(self):
        for number in (LEAST, -1, 1, 2, MOST):
            self.ends([1, 3], ["get a", "if a", "put 1", "else", "put 2", "end", "put 3"], [number])
            self.ends([1], ["get a", "while a", "put 1", "set a 0", "end"], [number])
        self.ends([2, 3], ["get a", "if a", "put 1", "else", "put 2", "end", "put 3"], [0])
        self.ends([], ["get a", "while a", "put 1", "end"], [0])

    def test_blocks_within_blocks(self):
        rows = ["get a", "while a", "if < a 3", "if = a 1", "put 100", "else", "put 200", "end", "else",
                "set b 2", "while b", "put + * a 10 b", "set b - b 1", "end", "end", "set a - a 1", "end", "put 0"]
        self.ends([42, 41, 32, 31, 200, 100, 0], rows, [4])

    def test_a_test_is_looked_at_before_each_round(self):
        self.ends([3, 2, 1, 0], ["get a", "while a", "put a", "set a - a 1", "end", "put a"], [3])
        self.means([2, 2, 2], 100, ["set a 2", "while % 7 a", "put a", "set a 0", "end"])


class Variables(MeanCase):
    def test_all_0_at_first(self):
        letters = "abcdefghijklmnopqrstuvwxyz"
        self.ends([0] * 26, [f"put {letter}" for letter in letters])
        rows = [f"set {letter} {number}" for number, letter in enumerate(letters, 1)]
        self.ends(list(range(1, 27)), rows + [f"put {letter}" for letter in letters])
        self.ends(list(range(26)), [f"get {letter}" for letter in letters] + [f"put {letter}" for letter in letters],
                  list(range(26)))

    def test_a_parameter_hides_the_shared_letter(self):
        self.ends([5, 1, 1], ["set x 1", "do A 5", "put x", "do B", "proc A x", "put x", "end",
                              "proc B", "put x", "end"])

    def test_set_and_get_of_a_parameter(self):
        self.ends([7, 8, 1], ["set x 1", "do A 5", "put x",
                              "proc A x", "set x 7", "put x", "get x", "put x", "end"], [8])
        self.ends([6, 6], ["set y 1", "do A 5", "put y", "proc A x", "set y + x 1", "put y", "end"])
        self.ends([9, 9], ["do A 5", "put y", "proc A x", "get y", "put y", "end"], [9])

    def test_the_latest_call_alone(self):
        rows = ["do A 3", "proc A x", "put x", "if x", "do A - x 1", "end", "put x", "end"]
        self.ends([3, 2, 1, 0, 0, 1, 2, 3], rows)
        rows = ["do A 3", "proc A x", "if x", "do A - x 1", "end", "set x + x 10", "put x", "end"]
        self.ends([10, 11, 12, 13], rows)

    def test_calls_within_calls(self):
        rows = ["set x 1", "set y 2", "do A 10 20", "put x", "put y", "proc A x y", "do B 30", "put x", "put y", "end",
                "proc B y", "put x", "put y", "set x 3", "set y 4", "put y", "end"]
        self.ends([1, 30, 4, 10, 20, 3, 2], rows)

    def test_an_expression_of_a_do_is_the_callers(self):
        self.ends([21], ["set a 9", "do A 1 2", "proc A a b", "do B + b a - b a", "end",
                         "proc B b a", "put + * b 7 - a 1", "end"])

    def test_parameters_in_order(self):
        self.ends([1, 2, 3, 4], ["do A 1 2 3 4", "proc A d b c a", "put d", "put b", "put c", "put a", "end"])

    def test_a_parameter_begins_anew(self):
        self.ends([1, 5, 1, 5], ["do A 1", "do A 1", "proc A x", "put x", "set x 5", "put x", "end"])


class Calls(MeanCase):
    def test_on_behind_the_do(self):
        self.ends([1, 5, 2, 5, 3], ["put 1", "do A", "put 2", "do A", "put 3", "stop", "proc A", "put 5", "end"])
        self.ends([1, 5, 2, 5, 3], ["proc A", "put 5", "end", "put 1", "do A", "put 2", "do A", "put 3"])

    def test_a_proc_come_to_is_passed_over(self):
        self.ends([1, 2], ["put 1", "proc A", "put 9", "end", "proc B x", "put 9", "end", "put 2"])

    def test_out_of_blocks_of_a_procedure(self):
        rows = ["set n 2", "while n", "do A", "set n - n 1", "end",
                "proc A", "if 1", "while 1", "put n", "if = n 1", "stop", "end", "do B", "end", "end", "end",
                "proc B", "set n 1", "end"]
        self.ends([2, 1], rows)

    def deep(self, calls):
        return ["proc A x", "if x", "do A - x 1", "end", "put x", "end", f"do A {calls - 1}"]

    def test_two_hundred_calls(self):
        self.ends(list(range(200)), self.deep(200))
        self.ends(list(range(199)), self.deep(199))
        self.means([3, 3], 20000, self.deep(201))
        self.means([3, 3], 20000, self.deep(202))

    def test_the_201st_stands_before_it_is_run(self):
        rows = ["proc A", "do A", "end", "do A"]
        self.means([7, 0], 1 + 199, rows)
        self.means([3, 2], 1 + 200, rows)
        self.means([3, 2], 1 + 201, rows)

    def test_its_expressions_are_worked_out_first(self):
        for fault, standing in (("/ 1 0", 2), ("* " + "9" * 18 + " 99", 1)):
            rows = ["set n 199", "do A 0", "proc A x", "if n", "set n - n 1", "do A 0", "end", f"do A {fault}", "end"]
            self.means([standing, 8], 20000, rows)
        rows = ["set n 199", "do A 0", "proc A x", "if n", "set n - n 1", "do A 0", "end", "do A / 1 1", "end"]
        self.means([3, 8], 20000, rows)

    def test_calls_that_came_back_are_not_open(self):
        self.ends([0], ["set n 1000", "while n", "do A", "set n - n 1", "end", "put n", "proc A", "end"])
        rows = ["set n 5", "while n", "do A 198", "set n - n 1", "end", "put n",
                "proc A x", "if x", "do A - x 1", "end", "end"]
        self.ends([0], rows)


class Given(MeanCase):
    def test_left_over(self):
        for more in ([], [1], [LEAST, MOST], [0] * 4000):
            self.ends([5], ["get a", "put a"], [5] + more)
            self.ends([], ["stop"], more)

    def test_in_order(self):
        self.ends([1, 2, 3, 3, 2, 1], ["get a", "get b", "get c", "put a", "put b", "put c", "put c", "put b", "put a"],
                  [1, 2, 3])

    def test_long_runs_end_in_reasonable_time(self):
        for rows in (["while 1", "put" + " + 1" * 29 + " a", "end"], ["while 1"] + [""] * 500 + ["end"],
                     ["while 1", "if" + " !" * 58 + " 1", "end", "end"]):
            begin = time.monotonic()
            self.assertEqual(mean(20000, text_of(*rows), [7] * 5000)[:2], [7, 0])
            self.assertLess(time.monotonic() - begin, 10)


if __name__ == "__main__":
    unittest.main()
