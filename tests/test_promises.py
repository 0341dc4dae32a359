"""The promises over the whole program: P1 to P6, on many made texts; the same texts each time."""

import random
import unittest

from helpers import LEAST, MOST, STATE, Maker, RunMaker, answers_to, code, give, go, load, text_of
from linewords.texts import asm, check, compile_text, mean, show

# Each is refused wherever it stands behind a load, and changes nothing.
REFUSED = (go(20001), go(4294967295, 0), give(MOST + 1), give(1, 2, LEAST - 1), give(*[5] * 4097))


# As far as those go that end at all, of the made ones.
FAR = [go()] * 4


def right_texts(seed, count):
    """Texts worth running, with numbers to give."""
    maker = RunMaker(seed)
    while count:
        rows = maker.rows()
        if all(len(row.split()) <= 60 for row in rows):
            count -= 1
            yield rows, maker.given(maker.random.randrange(15)), maker.random


def outcome(calls):
    """All that was put, and the last state."""
    found = answers_to(*calls)
    put = [number for call, answer in zip(calls, found) if call[0] == 6 for number in answer[1:]]
    return put, found[-1]


def cut_calls(made, given, chance):
    """The same run cut anyhow: first the numbers come with small steps between, then it goes as far as it can."""
    calls = [load(made)]
    left = list(given)
    while left or chance.random() < 0.7:
        count = chance.randrange(4)
        calls.append(give(*left[:count]))
        left = left[count:]
        calls += [go(chance.randrange(60), chance.choice([0, 1, 2, 9, 100])) for _ in range(chance.randrange(3))]
        calls += [STATE] * chance.randrange(2)
    return calls + FAR + [STATE]


class CodeDoesWhatTheTextSays(unittest.TestCase):
    def compare(self, rows, given, n=3000, far=FAR):
        text = text_of(*rows)
        told = mean(n, text, given)
        made = compile_text(text)[1:]
        put, state = outcome([load(made), give(*given)] + far + [STATE])
        if told[0] == 7:
            # Cut short, by lines here and by instructions there: one of the two has put what the other has, or more.
            shorter = min(len(put), len(told) - 2)
            self.assertEqual(put[:shorter], told[2:2 + shorter], rows)
        else:
            self.assertEqual((state, put), (told[:2], told[2:]), rows)
        return told[0]

    def test_made_texts(self):
        seen = {}
        for rows, given, _ in right_texts(51, 2500):
            standing = self.compare(rows, given)
            seen[standing] = seen.get(standing, 0) + 1
        self.assertEqual(sorted(number for number in seen if seen[number] > 20), [0, 1, 2, 3, 6, 7], seen)

    def test_texts_of_any_kind(self):
        maker = Maker(52)
        for _ in range(1500):
            rows = maker.rows()
            if check(text_of(*rows)) == [0]:
                self.compare(rows, [LEAST, -1, 0, 1, MOST])

    def test_long_expressions(self):
        chance = random.Random(53)
        for _ in range(300):
            words = ["+", "-", "*", "/", "%", "<", "=", "!"]
            wanted, found = 1, []
            while wanted:
                pick = chance.choice(words) if len(found) + wanted < 55 and chance.random() < 0.8 else chance.choice("ab12")
                found.append(pick)
                wanted += {"!": 0}.get(pick, 1) if pick in words else -1
            self.compare(["get a", "get b", "put " + " ".join(found)], [chance.choice([LEAST, -3, 2, 5, MOST]) for _ in "ab"])

    def test_calls_at_their_bound(self):
        for depth in (198, 199, 200, 201, 202):
            self.compare(["proc A x y", "if x", "do A - x 1 + y x", "end", "put + x y", "end", f"do A {depth - 1} 1"], [])
        self.compare(["proc A", "do A", "end", "do A"], [])

    def test_many_open_blocks(self):
        rows = ["get a"] + ["if a"] * 20 + ["while a"] * 20 + ["set a - a 1", "put a"] + ["end"] * 40 + ["put / 1 a"]
        for number in (0, 1, 5):
            self.compare(rows, [number])

    def test_long_runs(self):
        for rows, given in (
            (["put 1"] * 2000 + ["put / 1 0"], []),
            ([""] * 7000 + ["while 1", "get a", "put a", "get a", "put a", "end"], list(range(4096))),
            (["if 0"] + ["put 1"] * 2000 + ["else"] + ["put 2"] * 400 + ["end", "put % 1 0"], []),
            (["set a 3000", "while a", "do A a", "end", "proc A x", "put * x x", "set a - x 1", "end"], []),
        ):
            self.assertNotEqual(self.compare(rows, given, 20000, [go()] * 20), 7)


class TheSameHoweverItIsCut(unittest.TestCase):
    def test_made_texts(self):
        for rows, given, chance in right_texts(54, 600):
            made = compile_text(text_of(*rows))[1:]
            whole = outcome([load(made), give(*given)] + FAR + [STATE])
            if whole[1] != [7, 0]:
                for _ in range(3):
                    self.assertEqual(outcome(cut_calls(made, given, chance)), whole, rows)

    def test_any_bytes(self):
        chance = random.Random(55)
        for _ in range(1500):
            made = [chance.choice([chance.randrange(21), 0, 1, 2, 18, 19]) for _ in range(chance.randrange(80))]
            given = [chance.randrange(-3, 4) for _ in range(chance.randrange(6))]
            whole = outcome([load(made), give(*given)] + FAR + [STATE])
            if whole[1] != [7, 0]:
                self.assertEqual(outcome(cut_calls(made, given, chance)), whole, made)

    def test_one_by_one(self):
        made = code("again: get, push 2, mul, store 0, load 0, put, jmp again")
        given = [1, 2, 3, 4]
        whole = outcome([load(made), give(*given), go(), STATE])
        self.assertEqual(whole, ([2, 4, 6, 8], [6, 0]))
        self.assertEqual(outcome([load(made), give(*given)] + [go(1)] * 60 + [STATE]), whole)
        self.assertEqual(outcome([load(made), give(*given)] + [go(20000, 1)] * 6 + [STATE]), whole)
        self.assertEqual(outcome([load(made)] + [call for number in given for call in (give(number), go())] + [STATE]), whole)
        self.assertEqual(outcome([load(made), give(*given)] + [go(20000, 0), go(7, 1)] * 8 + [STATE]), whole)


class TheFirstWrongLine(unittest.TestCase):
    def test_compile_and_mean_take_a_text_just_if_there_is_none(self):
        maker = Maker(56)
        for _ in range(4000):
            text = maker.text()
            right = check(text) == [0]
            self.assertEqual(compile_text(text)[0], 0 if right else -1, bytes(text))
            self.assertEqual(mean(0, text, []) != [-9], right, bytes(text))

    def test_a_wrong_line_that_is_never_run(self):
        for rows in (["stop", "x"], ["if 0", "put", "end"], ["proc A", "get", "end"]):
            self.assertGreater(check(text_of(*rows))[0], 0)
            self.assertEqual(compile_text(text_of(*rows)), [-1])
            self.assertEqual(mean(9, text_of(*rows), []), [-9])


class AnyBytesMayBeLoaded(unittest.TestCase):
    def test_drawn_ones(self):
        chance = random.Random(57)
        for length in list(range(50)) * 10 + [1000, 15990]:
            made = [chance.randrange(256) for _ in range(length)]
            found = answers_to(load(made), go(), STATE, give(1, 2, 3), go(), STATE)
            self.assertEqual([found[0], found[3]], [[0], [0]])
            self.assertIn(found[5][0], range(8))


class WhatShowWritesAsmReads(unittest.TestCase):
    def test_every_instruction_of_made_code(self):
        for rows, given, _ in right_texts(58, 300):
            made = compile_text(text_of(*rows))[1:]
            at = 0
            while at < len(made):
                shown = show(at, made)
                size = shown[0]
                self.assertGreater(size, 0)
                self.assertEqual(asm(shown[1:]), [size] + made[at:at + size])
                at += size
            self.assertEqual(at, len(made))


class ARefusedCallChangesNothing(unittest.TestCase):
    def test_between_others(self):
        for rows, given, chance in right_texts(59, 400):
            made = compile_text(text_of(*rows))[1:]
            calls = cut_calls(made, given, chance)[:40]
            plain = answers_to(*calls)
            mixed, marks = [], []
            for call in calls:
                more = [chance.choice(REFUSED) for _ in range(chance.randrange(3))] if mixed else []
                mixed += more + [call]
                marks += [True] * len(more) + [False]
            found = answers_to(*mixed)
            self.assertEqual([answer for answer, mark in zip(found, marks) if not mark], plain)
            for answer, mark in zip(found, marks):
                if mark:
                    self.assertEqual(len(answer), 1)
                    self.assertIn(answer[0], (-3, -1))

    def test_before_anything_is_loaded(self):
        early = [go(), STATE, give(1), give(MOST + 1), go(20001)]
        found = answers_to(*early, load(code("get, put")), STATE, give(4), go())
        self.assertEqual(found, [[-8], [-8], [-8], [-3], [-3], [0], [6, 0], [0], [0, 4]])


if __name__ == "__main__":
    unittest.main()
