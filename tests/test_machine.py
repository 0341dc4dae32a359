"""load, give, go, state: refusals, each instruction, what goes wrong and which counts, and how going stops."""

import time
import unittest

from helpers import LEAST, MOST, NAMES, STATE, answers_to, code, give, go, load
from linewords.machine import answers
from linewords.processor import Machine

FULL = ["push 7"] * 1024


class MachineCase(unittest.TestCase):
    def answered(self, expected, *calls):
        self.assertEqual(answers_to(*calls), expected)

    def stands(self, standing, line, *rows, given=(), n=20000):
        """The machine, gone as far as it can with this code, stands so; and so it does for good."""
        first = answers_to(load(code(*rows)), give(*given), go(n), STATE)
        self.assertEqual(first[3], [standing, line], rows[-4:])
        if n == 20000:
            again = answers_to(load(code(*rows)), give(*given), go(n), STATE, go(n), STATE, go(0), STATE, go(3, 0), STATE)
            self.assertEqual(again[4:], [[0], [standing, line]] * 3, rows[-4:])
        return first[2][1:]

    def puts(self, expected, *rows, given=()):
        self.assertEqual(self.stands(0, 0, *rows, "halt", given=given), expected, rows)


class Lists(MachineCase):
    def test_empty(self):
        self.assertEqual(answers([]), [])

    def test_how_calls_and_answers_lie(self):
        calls = [7, 4, 4, 19, 18, 18, 0, 7, 5, 1, 6, 6, 100, 9, 7, 5, 0, 6, 1, 1]
        self.assertEqual(answers(calls), [1, -8, 1, 0, 2, 6, 0, 1, 0, 2, 0, 6, 2, 4, 0, 1, 0, 1, 0])

    def test_each_list_is_an_object_of_its_own(self):
        self.answered([[0], [0], [7, 0]], load(code("get")), give(1), STATE)
        self.answered([[-8]], STATE)

    def test_three_hundred_calls(self):
        self.assertEqual(answers([7] * 300), [1, -8] * 300)
        self.answered([[0]] * 300, *[load([0])] * 300)


class Refusals(MachineCase):
    def test_nothing_loaded(self):
        self.answered([[-8]] * 7, STATE, go(0), go(), go(20000, 0), give(), give(1), give(*[0] * 4097))

    def test_first_of_all(self):
        self.answered([[-3], [-3], [-3], [-3]], go(20001), go(4294967295, 0), give(MOST + 1), give(LEAST - 1))
        self.answered([[-3], [-8]], give(*[0] * 4096, MOST + 1), STATE)
        self.answered([[0], [-3], [0], [-3]], load([0]), give(*[0] * 4096, MOST + 1), give(*[0] * 4096), give(MOST + 1))

    def test_n(self):
        for n in (0, 1, 19999, 20000):
            self.answered([[0], [0]], load([0]), go(n))
        for n in (20001, 20002, 4294967295):
            self.answered([[0], [-3]], load([0]), go(n))

    def test_cap_has_no_bound(self):
        for cap in (20001, 2 ** 31, 4294967295):
            self.answered([[0], [0, 5]], load(code("push 5, put")), go(10, cap))

    def test_numbers_given(self):
        for number in (LEAST, LEAST + 1, -1, 0, MOST - 1, MOST):
            self.answered([[0], [0], [0, number]], load(code("get, put")), give(number), go())
        for number in (LEAST - 1, MOST + 1, 2 ** 64 - 1, 1 - 2 ** 64):
            for given in ([number], [1, number], [number, 1], [0] * 100 + [number]):
                self.answered([[0], [-3], [6, 0]], load(code("get, put")), give(*given), STATE)

    def test_a_load_of_many_bytes(self):
        self.answered([[0], [0, 0]], load([0] * 15990), STATE)
        self.assertEqual(answers([4, 262208] + [0] * 262208 + [7]), [1, 0, 2, 0, 0])
        self.assertEqual(answers([4, 262209] + [0] * 262209 + [7]), [1, -1, 1, -8])
        kept = load(code("get, put")) + give(5) + load([0] * 262209) + go() + STATE
        self.assertEqual(answers(kept), [1, 0, 1, 0, 1, -1, 2, 0, 5, 2, 4, 0])


class Loading(MachineCase):
    def test_begins_anew(self):
        first = load(code("line 9, push 1, store 3, get, push 2, call 31 1, loadl 1"))
        self.answered([[0], [0], [0], [4, 9], [0], [4, 0]], first, give(7, 8), go(), STATE, load([21]), STATE)
        self.answered([[0], [0], [0], [0], [6, 0]], first, give(7, 8), go(), load(code("get")), STATE)
        self.answered([[0], [0], [0], [0], [0, 0], [4, 0]], first, give(7), go(), load(code("load 3, put, put")), go(), STATE)
        self.answered([[0], [0], [0], [0], [4, 0]], first, give(7), go(), load(code("ret")), STATE)
        self.answered([[0], [0], [0], [0], [4, 0]], first, give(7), go(), load(code("loadl 0")), STATE)
        self.answered([[0], [0], [0], [0], [4, 0]], first, give(7), go(), load(code("store 0")), STATE)

    def test_the_same_code_again(self):
        made = load(code("get, put, halt"))
        self.answered([[0], [0], [0, 4], [0, 0], [0], [6, 0], [0], [0, 5]],
                      made, give(4), go(), STATE, made, STATE, give(5), go())

    def test_another_code_at_the_same_places(self):
        self.answered([[0], [0, 1], [0], [0, 2]], load(code("push 1, put")), go(), load(code("push 2, put")), go())


class Giving(MachineCase):
    def test_4096_wait(self):
        made = load(code("get, put, jmp 0"))
        many = list(range(4096))
        self.answered([[0], [0], [-1], [-1], [0], [0] + many, [6, 0]],
                      made, give(*many), give(7), give(7, 8), give(), go(), STATE)
        self.answered([[0], [-1], [6, 0], [0]], made, give(*range(4097)), STATE, give(*many))
        self.answered([[0], [0], [-1], [0], [-1], [0, 1, 2]], made, give(1), give(*many), give(2), give(*many[1:]), go())

    def test_those_that_were_taken_wait_no_more(self):
        made = load(code("get, put, jmp 0"))
        many = [5] * 4096
        self.answered([[0], [0], [0], [-1], [0], [-1], [0] + [5] * 4096 + [6]],
                      made, give(*many), go(1), give(6, 6), give(6), give(6), go())

    def test_in_order(self):
        made = load(code("get, put, jmp 0"))
        self.answered([[0], [0], [0], [0, 1, 2, 3], [0], [0, 4]], made, give(1, 2), give(3), go(), give(4), go())

    def test_a_refused_give_leaves_the_waiting(self):
        made = load(code("get, put, jmp 0"))
        self.answered([[0], [0], [-3], [-1], [0, 1, 2]], made, give(1, 2), give(3, MOST + 1), give(*[3] * 4095), go())


class Going(MachineCase):
    def test_n_instructions(self):
        made = load(code("line 1, line 2, line 3, line 4, put"))
        for n in range(7):
            self.answered([[0], [0], [4, 4] if n >= 4 else [7, 0]], made, go(n), STATE)
        made = load(code("push 1, put, push 2, put, push 3, put"))
        for n, put in enumerate([[], [], [1], [1], [1, 2], [1, 2], [1, 2, 3], [1, 2, 3]]):
            self.answered([[0], [0] + put], made, go(n))

    def test_each_instruction_counts_one(self):
        body = "push 1, store 0, load 0, not, jz on, halt, on: jmp over, halt, over: line 5, push 2, push 3, add, put"
        self.answered([[0], [0], [0], [0, 5]], load(code(body)), go(9), go(1), go(1))
        body = "push 1, call one 1, halt, one: loadl 0, storel 0, ret"
        for n in range(5):
            self.answered([[0], [0], [7, 0]], load(code(body)), go(n), STATE)
        self.answered([[0], [0], [0, 0]], load(code(body)), go(5), STATE)

    def test_20000_instructions(self):
        self.answered([[0], [0] + [1] * 6667, [0], [0], [0, 1]], load(code("push 1, put, jmp 0")), go(), go(1), go(1), go(1))

    def test_none(self):
        self.answered([[0], [0], [7, 0]], load(code("push 1, put")), go(0), STATE)

    def test_cap(self):
        made = load(code("push 1, put, push 2, put, push 3, put, halt"))
        self.answered([[0], [0], [7, 0], [0], [0, 1], [0, 2, 3], [0, 0]],
                      made, go(100, 0), STATE, go(100, 0), go(100, 1), go(100, 2), STATE)
        self.answered([[0], [0, 1, 2], [7, 0], [0, 3], [0, 0]], made, go(100, 2), STATE, go(100, 2), STATE)
        self.answered([[0], [0, 1, 2, 3], [0, 0]], made, go(100, 3), STATE)

    def test_cap_is_of_one_call(self):
        made = load(code("push 1, put, jmp 0"))
        self.answered([[0]] + [[0, 1, 1]] * 5, made, *[go(100, 2)] * 5)

    def test_a_capped_put_is_not_carried_out(self):
        self.answered([[0], [0], [7, 0], [0, 5], [4, 0]], load(code("push 5, put, put")), go(100, 0), STATE, go(), STATE)

    def test_instructions_before_a_capped_put_are_carried_out(self):
        made = load(code("push 5, put, line 8, push 6, push 7, put"))
        self.answered([[0], [0, 5], [0, 7], [4, 8]], made, go(100, 1), go(1, 1), STATE)

    def test_halt_stays(self):
        self.answered([[0], [0, 1], [0, 0], [0], [0, 0]], load(code("push 1, put, halt, push 2, put")), go(), STATE, go(), STATE)

    def test_get_stays(self):
        made = load(code("push 1, put, get, put"))
        self.answered([[0], [0, 1], [6, 0], [0], [6, 0], [0], [7, 0], [0, 9], [4, 0]],
                      made, go(), STATE, go(), STATE, give(9), STATE, go(), STATE)

    def test_a_wrong_one_stays(self):
        made = load(code("line 3, push 1, put, push 1, push 0, div, put"))
        self.answered([[0], [0, 1], [2, 3], [0], [2, 3], [0], [2, 3]], made, go(), STATE, go(), STATE, give(5), STATE)


class Standing(MachineCase):
    def test_halt(self):
        self.stands(0, 0, "halt")
        self.stands(0, 0, "line 7, halt")

    def test_any_other(self):
        for row in ("push 1", "load 0", "jmp 0", "line 1"):
            self.stands(7, 0, row, n=0)
            self.stands(7, 0, "line 5", row, n=1)
        for row in ("store 0", "not", "jz 0", "put"):
            self.stands(7, 0, "line 5, push 1", row, n=2)
        for name in NAMES[6:13]:
            self.stands(7, 0, "line 5, push 1, push 1", name, n=3)
        self.stands(7, 0, "line 5", "get", given=[1], n=1)
        self.stands(7, 0, "line 5", "call 5 0", n=1)
        self.stands(7, 0, "call 6 0", "ret", n=1)

    def test_waiting(self):
        self.stands(6, 0, "get")
        self.stands(6, 0, "line 5, get")
        self.stands(6, 0, "line 5, get, get", given=[3])

    def test_the_line_told_last(self):
        self.stands(4, 0, "put")
        self.stands(4, 1, "line 1, put")
        self.stands(4, 2, "line 1, line 2, put")
        self.stands(4, 4294967295, "line 4294967295, put")
        self.stands(4, 0, "line 5, line 0, put")
        self.stands(4, 9, "line 9, jmp over, line 6, over: put")
        self.stands(4, 256, "line 256, store 0")

    def test_it_is_told_by_an_instruction_carried_out(self):
        self.stands(7, 0, "line 5, put", n=0)
        self.stands(4, 5, "line 5, put", n=1)


class TooFew(MachineCase):
    def test_one_needed(self):
        for row in ("store 0", "not", "jz 0", "put", "jz 4294967295", "store 255"):
            self.stands(4, 3, "line 3", row)
            self.stands(4, 3, "line 3, push 1, store 0", row)
            self.assertEqual(answers_to(load(code("push 0", row)), go(1), STATE)[2], [7, 0])

    def test_two_needed(self):
        for name in NAMES[6:13]:
            self.stands(4, 3, "line 3", name)
            self.stands(4, 3, "line 3, push 1", name)
            self.stands(4, 3, "line 3, push 0", name)
            self.stands(4, 4, "line 4, push 1, push 1", name, name)

    def test_call(self):
        for count in (1, 2, 5, 255):
            for there in range(min(count, 4)):
                self.stands(4, 3, "line 3", *["push 1"] * there, f"call 0 {count}")
            made = code(*["push 1"] * count, f"call 4000 {count}")
            self.assertEqual(answers_to(load(made), go(count), STATE, go(1), STATE)[2:], [[7, 0], [0], [4, 0]])

    def test_storel(self):
        self.stands(4, 0, "push 1, call 15 1, storel 0")
        self.stands(4, 3, "line 3, push 1, push 2, call 29 1, storel 0, storel 0")


class OwnNumbers(MachineCase):
    def test_none_open(self):
        for row in ("loadl 0", "storel 0", "loadl 255", "storel 255"):
            self.stands(4, 2, "line 2, push 1", row)

    def test_numbers_that_there_are(self):
        for count in (1, 2, 3, 255):
            pushes = [f"push {number + 100}" for number in range(count)]
            place = 9 * count + 6
            for number in {0, 1, count // 2, count - 1}:
                if number < count:
                    self.puts([number + 100], *pushes, f"call {place} {count}", f"loadl {number}, put")
                    self.puts([number + 100, 5], *pushes, f"call {place} {count}", f"loadl {number}, put",
                              f"push 5, storel {number}, loadl {number}, put")
            if count < 255:
                self.stands(4, 0, *pushes, f"call {place} {count}", f"loadl {count}")
                self.stands(4, 0, *pushes, f"call {place} {count}", f"push 1, storel {count}")
                self.stands(4, 0, *pushes, f"call {place} {count}", "loadl 255")

    def test_a_call_without_numbers(self):
        self.stands(4, 0, "push 1, call 15 0, loadl 0")
        self.stands(4, 0, "push 1, call 15 0, storel 0")

    def test_the_lowest_is_number_0(self):
        self.puts([10, 20, 30, 5], "push 5, push 10, push 20, push 30, call on 3", "on: loadl 0, put, loadl 1, put, loadl 2, put, put")

    def test_the_latest_calls_alone(self):
        # Behind the inner call's ret the outer one's numbers are there again, as they were left.
        outer = "push 1, call outer 1, halt, outer: loadl 0, put, push 2, storel 0, push 7, call inner 1, loadl 0, put, ret"
        self.puts([1, 7, 8, 2], outer, "inner: loadl 0, put, push 8, storel 0, loadl 0, put, ret")

    def test_an_inner_call_has_no_more_than_its_own(self):
        self.stands(4, 0, "push 1, push 2, call one 2, one: push 9, call two 1, two: loadl 1")

    def test_set_ones_leave_the_others(self):
        self.puts([1, 9, 3], "push 1, push 2, push 3, call on 3", "on: push 9, storel 1, loadl 0, put, loadl 1, put, loadl 2, put")


class Calls(MachineCase):
    def test_back_behind_the_call(self):
        self.puts([1, 2, 1, 3], "jmp begin, one: push 1, put, ret", "begin: call one 0, push 2, put, call one 0, push 3, put")

    def test_ret_leaves_the_stack(self):
        self.puts([7, 6], "jmp begin, seven: push 7, ret", "begin: push 6, call seven 0, put, put")

    def test_ret_with_none_open(self):
        self.stands(4, 0, "ret")
        self.stands(4, 3, "line 3, ret")
        self.stands(4, 3, "line 3, call here 0, here: ret")

    def nested(self, count):
        """Calls within calls, so many, which all come back; then puts how many did."""
        return code(f"push {count - 1}, store 0, line 5, call deep 0, load 1, put, halt",
                    "deep: load 0, jz back, load 0, push 1, sub, store 0, call deep 0",
                    "back: load 1, push 1, add, store 1, ret")

    def test_two_hundred_open(self):
        for count in (1, 2, 199, 200):
            self.answered([[0], [0, count], [0, 0]], load(self.nested(count)), go(), STATE)
        for count in (201, 202, 1000):
            self.answered([[0], [0], [3, 5], [0], [3, 5]], load(self.nested(count)), go(), STATE, go(), STATE)

    def test_the_201st_takes_nothing(self):
        body = "line 7, push 4, call 0 1"
        self.stands(3, 7, body)
        self.answered([[0], [0], [3, 7], [0], [3, 7]], load(code(body)), go(), STATE, go(), STATE)

    def test_4_before_3(self):
        self.stands(3, 0, "call 0 0")
        calls = [f"c{number}: call c{number + 1} 1" for number in range(200)]
        self.stands(4, 2, "line 2", *["push 1"] * 200, *calls, "c200: call 0 1")
        self.stands(3, 2, "line 2", *["push 1"] * 201, *calls, "c200: call 0 1")
        self.stands(4, 2, "line 2", *["push 1"] * 201, *calls, "c200: call 0 2")
        self.stands(3, 2, "line 2", *["push 1"] * 200, *calls, "c200: call 0 0")

    def test_calls_that_came_back_are_not_open(self):
        self.stands(7, 0, "jmp again, back: ret, again: call back 0, jmp again")


class FullStack(MachineCase):
    def test_push_load_and_get(self):
        for row in ("push 1", "load 0", "get"):
            self.stands(5, 8, "line 8", *FULL, row, given=[3])
            self.stands(0, 0, *FULL[1:], row, "halt", given=[3])

    def test_get_while_no_number_waits(self):
        self.stands(5, 8, "line 8", *FULL, "get")
        self.stands(6, 0, "line 8", *FULL[1:], "get")
        made = load(code("line 8", *FULL, "get"))
        self.answered([[0], [0], [5, 8], [0], [5, 8], [0], [5, 8]], made, go(), STATE, give(3), STATE, go(), STATE)

    def test_loadl(self):
        rows = ["push 1", "call 15 1", *FULL]
        self.stands(5, 0, *rows, "loadl 0")
        self.stands(0, 0, *rows[:-1], "loadl 0", "halt")

    def test_loadls_4_before_5(self):
        self.stands(4, 0, *FULL, "loadl 0")
        self.stands(4, 0, "push 1", "call 15 1", *FULL, "loadl 1")

    def test_others_need_no_room(self):
        for row in ("jmp 9221", "line 1", "call 9222 0", "not", "add", "put", "store 0", "jz 0", "halt"):
            self.assertNotEqual(answers_to(load(code(*FULL, row)), go(1024), STATE)[2][0], 5, row)

    def test_a_full_stack_can_be_emptied(self):
        self.puts([7] * 1024, *FULL, *["put"] * 1024)
        self.stands(4, 0, *FULL, *["put"] * 1025)

    def test_order_of_the_stack(self):
        many = [f"push {number}" for number in range(1024)]
        self.puts(list(range(1023, -1, -1)), *many, *["put"] * 1024)


class Arithmetic(MachineCase):
    def result(self, name, a, b, value):
        self.puts([value, 5], f"push 5, push {a}, push {b}, {name}, put, put")
        self.assertIs(type(answers_to(load(code(f"push {a}, push {b}, {name}, put")), go())[1][1]), int)

    def wrong(self, name, a, b, standing):
        self.stands(standing, 6, f"line 6, push {a}, push {b}, {name}, put")

    def test_add(self):
        for a, b in ((2, 3), (-2, 3), (MOST, 0), (MOST - 1, 1), (LEAST + 1, -1), (MOST, LEAST)):
            self.result("add", a, b, a + b)
        for a, b in ((MOST, 1), (1, MOST), (LEAST, -1), (MOST, MOST), (LEAST, LEAST)):
            self.wrong("add", a, b, 1)

    def test_sub(self):
        for a, b in ((2, 3), (3, 2), (LEAST, 0), (LEAST, LEAST), (-1, LEAST), (-1, MOST)):
            self.result("sub", a, b, a - b)
        for a, b in ((0, LEAST), (-2, MOST), (LEAST, 1), (MOST, -1)):
            self.wrong("sub", a, b, 1)

    def test_mul(self):
        for a, b in ((-4, 3), (MOST, 1), (MOST, -1), (LEAST, 1), (2 ** 31, -2 ** 32), (LEAST, 0), (0, MOST)):
            self.result("mul", a, b, a * b)
        for a, b in ((LEAST, -1), (-1, LEAST), (2 ** 31, 2 ** 32), (LEAST, LEAST), (MOST, 2), (3037000500, 3037000500)):
            self.wrong("mul", a, b, 1)

    def test_div(self):
        for a, b, value in ((7, 2, 3), (-7, 2, -3), (7, -2, -3), (-7, -2, 3), (1, 2, 0), (-1, 2, 0), (0, -3, 0),
                            (LEAST, 1, LEAST), (MOST, -1, -MOST), (LEAST, LEAST, 1), (MOST, LEAST, 0), (LEAST, 2, -2 ** 62)):
            self.result("div", a, b, value)
        self.wrong("div", LEAST, -1, 1)
        for a in (LEAST, -1, 0, 1, MOST):
            self.wrong("div", a, 0, 2)

    def test_mod(self):
        for a, b, value in ((7, 2, 1), (-7, 2, -1), (7, -2, 1), (-7, -2, -1), (6, 3, 0), (LEAST, -1, 0), (LEAST, MOST, -1),
                            (MOST, LEAST, MOST), (LEAST, 10, -8), (MOST, -10, 7)):
            self.result("mod", a, b, value)
        for a in (LEAST, -1, 0, 1, MOST):
            self.wrong("mod", a, 0, 2)

    def test_comparisons_and_not(self):
        for a in (LEAST, -1, 0, 1, MOST):
            for b in (LEAST, -1, 0, 1, MOST):
                self.result("lt", a, b, 1 if a < b else 0)
                self.result("eq", a, b, 1 if a == b else 0)
            self.puts([1 if a == 0 else 0, 5], f"push 5, push {a}, not, put, put")

    def test_4_before_1_and_2(self):
        self.stands(4, 0, "push 0, div")
        self.stands(4, 0, "push 0, mod")
        self.stands(4, 0, f"push {MOST}, add")

    def test_a_fault_takes_nothing_off(self):
        made = load(code("push 1, push 0, div, put"))
        self.answered([[0], [0], [2, 0]] + [[0], [2, 0]] * 5, made, go(), STATE, *[go(), STATE] * 5)


class NothingChanges(unittest.TestCase):
    def kept(self, machine):
        calls = [(call.back, list(call.own)) for call in machine.calls]
        return machine.at, list(machine.stack), list(machine.shared), calls, machine.line, list(machine.waiting)

    def test_what_cannot_be_carried_out(self):
        deep = [f"c{number}: call c{number + 1} 0" for number in range(200)]
        for rows, standing in (
            (["halt"], 0), (["push 5", f"push {MOST}, push 1, add"], 1), ([f"push {LEAST}, push -1, div"], 1),
            (["push 5, push 0, div"], 2), (["push 5, push 0, mod"], 2), ([*deep, "c200: push 1, call 0 1"], 3),
            (["ret"], 4), (["put"], 4), (["push 1, add"], 4), (["store 0"], 4), (["jz 0"], 4), (["not"], 4),
            (["push 1, storel 0"], 4), (["push 1, call 0 2"], 4), (["push 3, call c 1, c: push 1, storel 1"], 4),
            ([*FULL, "push 1"], 5), ([*FULL, "load 0"], 5), ([*FULL, "get"], 5), (["get, store 1, get, get"], 6),
        ):
            machine = Machine(code("line 9, push 8, store 4", *rows))
            machine.waiting.extend([1, 2] if standing != 6 else [1])
            machine.go(20000, 9)
            before = self.kept(machine)
            for _ in range(3):
                self.assertEqual(machine.told(), [standing, 9 if 0 < standing < 6 else 0], rows[-2:])
                self.assertEqual(self.kept(machine), before, rows[-2:])
                machine.go(20000, 9)
                self.assertEqual((self.kept(machine), machine.out), (before, []), rows[-2:])


class SharedNumbers(MachineCase):
    def test_all_of_them(self):
        rows = [f"push {number + 1000}, store {number}" for number in range(256)]
        self.puts([number + 1000 for number in range(256)], *rows, *[f"load {number}, put" for number in range(256)])

    def test_0_at_first(self):
        self.puts([0] * 256, *[f"load {number}, put" for number in range(256)])

    def test_shared_by_calls(self):
        self.puts([4, 6], "push 4, store 1, call on 0", "on: load 1, put, push 6, store 1, load 1, put")

    def test_a_store_takes_one_off(self):
        self.puts([1, 2], "push 1, push 2, store 0, put, load 0, put")


class Jumps(MachineCase):
    def test_jmp(self):
        self.puts([2], "jmp over, push 1, put, over: push 2, put")

    def test_jz(self):
        self.puts([2], "push 0, jz over, push 1, put, over: push 2, put")
        for number in (1, -1, LEAST, MOST, 256, 2 ** 32):
            self.puts([1, 2], f"push {number}, jz over, push 1, put, over: push 2, put")

    def test_jz_takes_one_off(self):
        for number in (0, 1):
            self.puts([5], f"push 5, push {number}, jz on, on: put")

    def test_places_in_all_bytes(self):
        for place in (255, 256, 257, 511, 9000, 15900):
            made = code(f"jmp {place}") + [21] * (place - 5) + code("push 3, put, halt")
            self.answered([[0], [0, 3], [0, 0]], load(made), go(), STATE)

    def test_behind_the_codes_end(self):
        for row in ("jmp", "push 0, jz", "call"):
            for place in (15, 16, 20, 1000, 65536, 2 ** 24, 2 ** 31, 2 ** 32 - 1):
                made = code(f"{row} {place}" + (" 0" if row == "call" else ""))
                self.answered([[0], [0], [4, 0], [0], [4, 0]], load(made), go(), STATE, go(), STATE)
                counted = 2 if "jz" in row else 1
                self.answered([[0], [0], [7, 0], [0], [4, 0]], load(made), go(counted - 1), STATE, go(1), STATE)

    def test_into_operands(self):
        # The last byte of the second push is a put: 9 and 5 bytes before it, 8 within it.
        self.answered([[0], [0, 7], [4, 0]], load(code("push 7, jmp 22", f"push {18 << 56}")), go(), STATE)
        # The operand of load is a halt, that of storel an add.
        self.answered([[0], [0], [0, 0]], load(code("jmp 6, load 0")), go(), STATE)
        self.answered([[0], [0, 5], [4, 0]], load(code("push 2, push 3, jmp 24, storel 6, put")), go(), STATE)
        # A jump into its own operand: the lowest byte of the place is 1, so a push stands there.
        made = load(code("jmp 1, jmp 0, put"))
        self.answered([[0], [0], [7, 0], [0, 14 << 24], [4, 0]], made, go(1), STATE, go(), STATE)


class NoWholeInstruction(MachineCase):
    def bytes_stand(self, standing, made):
        self.answered([[0], [standing, 0], [0], [standing, 0]], load(made), STATE, go(), STATE)

    def test_empty_code(self):
        self.bytes_stand(4, [])

    def test_bytes_above_20(self):
        for byte in range(21, 256):
            self.bytes_stand(4, [byte])
            self.bytes_stand(4, [byte] + [0] * 10)

    def test_cut_off(self):
        sizes = [1, 9, 2, 2, 2, 2, 1, 1, 1, 1, 1, 1, 1, 1, 5, 5, 6, 1, 1, 1, 5]
        for number, size in enumerate(sizes):
            for length in range(1, size):
                self.bytes_stand(4, [number] + [0] * (length - 1))
                made = code("line 2, push 1, push 1") + [number] + [0] * (length - 1)
                self.answered([[0], [0], [4, 2]], load(made), go(), STATE)

    def test_before_the_end(self):
        self.stands(4, 3, "line 3")
        self.stands(4, 3, "line 3, push 1, put")
        self.stands(4, 0, "call 6 0")
        self.stands(4, 0, "jmp over, back: ret, over: call back 0")

    def test_4_even_where_the_stack_is_full(self):
        self.answered([[0], [0], [4, 0]], load(code(*FULL) + [1, 0, 0]), go(), STATE)
        self.answered([[0], [0], [4, 0]], load(code(*FULL) + [2]), go(), STATE)


class Numbers(MachineCase):
    def test_push(self):
        for number in (0, 1, -1, 255, 256, -256, 2 ** 32, -2 ** 32, MOST, LEAST, MOST - 1, LEAST + 1):
            self.puts([number], f"push {number}, put")

    def test_get_and_put(self):
        self.puts([4, 3, LEAST, MOST], "get, get, put, put, get, put, get, put", given=[3, 4, LEAST, MOST, 9])

    def test_get_pushes_one(self):
        self.puts([5, 1], "push 1, get, put, put", given=[5, 6])


class Time(MachineCase):
    def test_the_longest_lists_end_in_reasonable_time(self):
        for row in ("push 3, push 7, mul, put, jmp 0", "jmp 6, ret, call 5 0, jmp 6", "push 0, jz 0"):
            calls = load(code(row)) + go() * 298 + STATE
            begin = time.monotonic()
            self.assertEqual(answers(calls)[-2:], [7, 0])
            self.assertLess(time.monotonic() - begin, 60)

    def test_many_bytes(self):
        begin = time.monotonic()
        self.assertEqual(answers(load([20] + [1] * 15989) + go() + STATE)[-3:], [2, 5, 16843009])
        self.assertEqual(answers(load(code(*["line 1"] * 3198)) + go() + STATE)[-3:], [2, 4, 1])
        self.assertLess(time.monotonic() - begin, 10)


if __name__ == "__main__":
    unittest.main()
