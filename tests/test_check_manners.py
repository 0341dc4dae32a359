"""check: what is handed in stays as it is, nothing is kept, printed, read or imported, nothing nests deep."""

import builtins
import contextlib
import io
import sys
import unittest
from unittest import mock

from linewords.texts import check


def text_of(*rows):
    return [ord(sign) for row in rows for sign in row + "\n"]


SAMPLES = (
    [],
    [10],
    text_of("get a", "while a", "put a", "set a - a 1", "end", "put / 7 a"),
    text_of("do A 1", "proc A x", "if x", "else", "stop", "end", "end"),
    text_of("if 1", "else", "else", "end"),
    text_of("proc A", "end", "proc A", "end"),
    text_of("do A"),
    text_of("while 1"),
    text_of("# \0 \xff", "put \xff"),
    text_of("put" + " !" * 58 + " 1"),
    text_of("if 1") * 3000,
    text_of("proc A a b c d") * 1000,
    [33, 32] * 8192,
    [97] * 16384,
    [255] * 16384,
    [10] * 16385,
)


def refuse(*arguments, **named):
    raise AssertionError("not to be called")


class Kept(list):
    """A list that can be read but not changed, not for a while either."""

    append = extend = insert = remove = pop = clear = sort = reverse = refuse
    __setitem__ = __delitem__ = __iadd__ = __imul__ = refuse


class Manners(unittest.TestCase):
    def test_the_answer_is_a_list_of_one_whole_number(self):
        for text in SAMPLES:
            answer = check(text)
            self.assertIs(type(answer), list)
            self.assertEqual([type(number) for number in answer], [int])

    def test_what_is_handed_in_stays(self):
        for text in SAMPLES:
            before = list(text)
            check(text)
            self.assertEqual(text, before)
            self.assertEqual(check(Kept(text)), check(text))

    def test_the_answer_is_a_list_of_its_own(self):
        for text in SAMPLES:
            answer = check(text)
            expected = list(answer)
            answer.append(7)
            self.assertEqual(check(text), expected)

    def test_nothing_is_kept(self):
        alone = [check(text) for text in SAMPLES]
        self.assertEqual([check(text) for text in SAMPLES], alone)
        self.assertEqual([check(text) for text in reversed(SAMPLES)], alone[::-1])
        for text, answer in zip(SAMPLES, alone):
            for other in SAMPLES[:10]:
                check(other)
                self.assertEqual(check(text), answer)

    def test_a_procedure_of_an_earlier_text_is_not_known(self):
        self.assertEqual(check(text_of("proc A", "end", "do A")), [0])
        self.assertEqual(check(text_of("do A")), [1])
        self.assertEqual(check(text_of("proc A", "end")), [0])
        self.assertEqual(check(text_of("if 1")), [2])
        self.assertEqual(check(text_of("end")), [1])

    def test_nothing_is_printed_read_or_imported(self):
        modules = sorted(sys.modules)
        out, err = io.StringIO(), io.StringIO()
        with contextlib.redirect_stdout(out), contextlib.redirect_stderr(err), mock.patch.object(sys, "stdin", None):
            with mock.patch.object(builtins, "open", refuse), mock.patch.object(builtins, "__import__", refuse):
                for text in SAMPLES:
                    check(text)
        self.assertEqual((out.getvalue(), err.getvalue()), ("", ""))
        self.assertEqual(sorted(sys.modules), modules)

    def test_nothing_nests_deep(self):
        depth = deepest = 0

        def watch(frame, event, argument):
            nonlocal depth, deepest
            depth += {"call": 1, "return": -1}.get(event, 0)
            deepest = max(deepest, depth)

        for text in SAMPLES:
            depth = 0
            sys.setprofile(watch)
            try:
                check(text)
            finally:
                sys.setprofile(None)
        self.assertLess(deepest, 20)


if __name__ == "__main__":
    unittest.main()
