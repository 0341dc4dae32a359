"""Every call: what is handed in stays as it is, nothing is kept, printed, read or imported, nothing nests deep."""

import builtins
import contextlib
import io
import sys
import unittest
from unittest import mock

from helpers import NAMES, STATE, code, give, go, load, text_of
from linewords.machine import answers as machine_answers
from linewords.texts import asm, check, compile_text, mean, show

TEXTS = (
    [],
    [10],
    text_of("get a", "while a", "put a", "set a - a 1", "end", "put / 7 a"),
    text_of("do A 1", "proc A x", "if x", "else", "stop", "end", "end"),
    text_of("if 1", "else", "else", "end"),
    text_of("proc A", "end", "proc A", "end"),
    text_of("do A"),
    text_of("while 1"),
    text_of("# \0 \xff", "put \xff"),
    text_of("put" + " !" * 58 + " 1"),
    text_of(*["if 1"] * 40, *["end"] * 40),
    text_of("if 1") * 3000,
    text_of("proc A a b c d") * 1000,
    text_of("proc A a b c d", "end") + text_of("do A 1 -1 a b") * 1168,
    [33, 32] * 8192,
    [97] * 16384,
    [255] * 16384,
    [10] * 16385,
)

CALLS = [(call, (text,)) for text in TEXTS for call in (check, compile_text)]
RUNS = ((0, []), (50, [3, -1]), (20001, []), (9, [2 ** 63]))
CALLS += [(mean, (n, text, given)) for text in TEXTS for n, given in RUNS]
CALLS += [
    (mean, (20000, text_of("proc A x", "if x", "do A - x 1", "end", "put < x 3", "end", "do A 199"), [1])),
    (mean, (20000, text_of("while 1", "get a", "put a", "end"), list(range(5000)))),
    (mean, (3000, text_of("while 1", "put" + " +" * 29 + " a" * 30, "end"), [])),
]
CALLS += [(show, (at, part)) for part in ([], [1] * 20000, list(range(256))) for at in (0, 7, 19999, 4294967295)]
CALLS += [(show, (0, [number] + [255] * 8)) for number in range(len(NAMES) + 1)]
CALLS += [(asm, (text_of(row),)) for row in ("push -1", "call 7 8", "load 256", "", "halt", "push " + "0" * 16000)]
CALLS += [(asm, ([byte, 32] * 8250,)) for byte in (0, 32, 49, 255)]
CALLS += [
    (machine_answers, (calls,))
    for calls in (
        [],
        STATE + go() + give(1),
        load(code("again: get, put, jmp again")) + give(3, 4) + go() + STATE + give(2 ** 63) + go(20001) + STATE,
        load(code("push 5, call deep 1, deep: loadl 0, push 1, add, storel 0, loadl 0, put, loadl 0, call deep 1")) + go(),
        load(code("push 1, jmp 0")) + go() + STATE + load(code("line 7, push 1, push 0, div")) + go() + STATE,
        load([255] * 15990) + go() + STATE,
        load(code("push 3, put, line 4")) * 100 + (go(2, 1) + STATE) * 40,
    )
]


def refuse(*arguments, **named):
    raise AssertionError("not to be called")


class Kept(list):
    """A list that can be read but not changed, not for a while either."""

    append = extend = insert = remove = pop = clear = sort = reverse = refuse
    __setitem__ = __delitem__ = __iadd__ = __imul__ = refuse


def kept(arguments):
    return [Kept(argument) if isinstance(argument, list) else argument for argument in arguments]


def copied(arguments):
    return [list(argument) if isinstance(argument, list) else argument for argument in arguments]


def answers(calls):
    return [call(*arguments) for call, arguments in calls]


class Manners(unittest.TestCase):
    def test_the_answer_is_a_list_of_whole_numbers(self):
        for answer in answers(CALLS):
            self.assertIs(type(answer), list)
            self.assertEqual({type(number) for number in answer} | {int}, {int})

    def test_what_is_handed_in_stays(self):
        for call, arguments in CALLS:
            before = copied(arguments)
            answer = call(*arguments)
            self.assertEqual(list(arguments), before)
            self.assertEqual(call(*kept(arguments)), answer)

    def test_the_answer_is_a_list_of_its_own(self):
        for call, arguments in CALLS:
            answer = call(*arguments)
            expected = list(answer)
            answer.append(7)
            answer[0] = 8
            self.assertEqual(call(*arguments), expected)

    def test_nothing_is_kept(self):
        alone = answers(CALLS)
        self.assertEqual(answers(CALLS), alone)
        self.assertEqual(answers(CALLS[::-1]), alone[::-1])
        small = [pair for pair in CALLS if sum(len(part) for part in pair[1] if isinstance(part, list)) < 1000]
        for (call, arguments), answer in zip(CALLS, alone):
            if (call, arguments) in small:
                for other, others in small:
                    other(*others)
                    self.assertEqual(call(*arguments), answer)

    def test_a_procedure_of_an_earlier_text_is_not_known(self):
        self.assertEqual(check(text_of("proc A", "end", "do A")), [0])
        self.assertEqual(check(text_of("do A")), [1])
        self.assertEqual(check(text_of("proc A", "end")), [0])
        self.assertEqual(check(text_of("if 1")), [2])
        self.assertEqual(check(text_of("end")), [1])

    def test_nothing_is_printed_read_or_imported(self):
        modules = sorted(sys.modules)
        out, err = io.StringIO(), io.StringIO()
        with contextlib.redirect_stdout(out), contextlib.redirect_stderr(err), mock.patch.object(sys, "stdin", None):
            with mock.patch.object(builtins, "open", refuse), mock.patch.object(builtins, "__import__", refuse):
                answers(CALLS)
        self.assertEqual((out.getvalue(), err.getvalue()), ("", ""))
        self.assertEqual(sorted(sys.modules), modules)

    def test_nothing_nests_deep(self):
        depth = deepest = 0

        def watch(frame, event, argument):
            nonlocal depth, deepest
            depth += {"call": 1, "return": -1}.get(event, 0)
            deepest = max(deepest, depth)

        for call, arguments in CALLS:
            depth = 0
            sys.setprofile(watch)
            try:
                call(*arguments)
            finally:
                sys.setprofile(None)
        self.assertLess(deepest, 20)


if __name__ == "__main__":
    unittest.main()
