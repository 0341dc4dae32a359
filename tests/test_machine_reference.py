"""load, give, go and state against a second writing of the machine, on drawn bytes, instructions and calls."""

import random
import struct
import unittest

from helpers import LAYOUTS, LEAST, MOST, NAMES, RunMaker, answers_to, code, text_of
from linewords.texts import compile_text


class Wrong(Exception):
    """The instruction goes wrong, in the way that is told."""


class Second:
    """The machine once more: an instruction is tried on a copy, which takes the place of what was if all went well."""

    def __init__(self, made):
        self.code = bytes(made)
        self.now = {"at": 0, "stack": [], "shared": {}, "calls": [], "line": 0, "waiting": []}

    def tried(self):
        """The name of the next instruction, what it puts, and what is then; None for what it waits for."""
        was = self.now
        then = {**was, "stack": list(was["stack"]), "shared": dict(was["shared"]), "waiting": list(was["waiting"]),
                "calls": [(back, list(own)) for back, own in was["calls"]]}
        name, operands, size = self.read(was["at"])
        then["at"] += size
        put = self.carry_out(name, operands, then)
        if len(then["stack"]) > 1024:
            raise Wrong(5)
        return name, put, then

    def read(self, at):
        if at >= len(self.code) or self.code[at] > 20:
            raise Wrong(4)
        name = NAMES[self.code[at]]
        layout = LAYOUTS.get(name, "<")
        size = struct.calcsize(layout)
        if at + 1 + size > len(self.code):
            raise Wrong(4)
        return name, struct.unpack_from(layout, self.code, at + 1), 1 + size

    def take(self, then, count):
        if len(then["stack"]) < count:
            raise Wrong(4)
        taken = then["stack"][len(then["stack"]) - count:]
        del then["stack"][len(then["stack"]) - count:]
        return taken

    def carry_out(self, name, operands, then):
        stack = then["stack"]
        if name == "push":
            stack.append(operands[0])
        elif name == "load":
            stack.append(then["shared"].get(operands[0], 0))
        elif name == "store":
            then["shared"][operands[0]] = self.take(then, 1)[0]
        elif name in ("loadl", "storel"):
            if not then["calls"] or operands[0] >= len(then["calls"][-1][1]):
                raise Wrong(4)
            if name == "loadl":
                stack.append(then["calls"][-1][1][operands[0]])
            else:
                then["calls"][-1][1][operands[0]] = self.take(then, 1)[0]
        elif name in ("add", "sub", "mul", "div", "mod", "lt", "eq"):
            stack.append(self.operation(name, *self.take(then, 2)))
        elif name == "not":
            stack.append(int(self.take(then, 1) == [0]))
        elif name == "jmp":
            then["at"] = operands[0]
        elif name == "jz":
            if self.take(then, 1) == [0]:
                then["at"] = operands[0]
        elif name == "call":
            then["calls"].append((then["at"], self.take(then, operands[1])))
            then["at"] = operands[0]
            if len(then["calls"]) > 200:
                raise Wrong(3)
        elif name == "ret":
            if not then["calls"]:
                raise Wrong(4)
            then["at"] = then["calls"].pop()[0]
        elif name == "put":
            return self.take(then, 1)
        elif name == "get":
            stack.append(then["waiting"].pop(0) if then["waiting"] else None)
        elif name == "line":
            then["line"] = operands[0]
        return []

    def operation(self, name, a, b):
        if name in ("lt", "eq"):
            return int(a < b if name == "lt" else a == b)
        if name in ("div", "mod"):
            if b == 0:
                raise Wrong(2)
            whole = abs(a) // abs(b) * (-1 if (a < 0) != (b < 0) else 1)
            result = whole if name == "div" else a - whole * b
        else:
            result = {"add": a + b, "sub": a - b, "mul": a * b}[name]
        if not LEAST <= result <= MOST:
            raise Wrong(1)
        return result

    def state(self):
        try:
            name, put, then = self.tried()
        except Wrong as wrong:
            return [wrong.args[0], self.now["line"]]
        if name == "halt":
            return [0, 0]
        return [6, 0] if then["stack"][-1:] == [None] else [7, 0]

    def go(self, n, cap):
        found = []
        for _ in range(n):
            try:
                name, put, then = self.tried()
            except Wrong:
                break
            if name == "halt" or then["stack"][-1:] == [None] or len(found + put) > cap:
                break
            found += put
            self.now = then
        return [0] + found


class Object:
    def __init__(self):
        self.second = None

    def answer(self, call):
        out_of_range = call[0] == 5 and any(not LEAST <= number <= MOST for number in call[2:])
        if out_of_range or call[0] == 6 and call[1] > 20000:
            return [-3]
        if call[0] == 4:
            self.second = Second(call[2:])
            return [0]
        if self.second is None:
            return [-8]
        if call[0] == 5:
            if len(self.second.now["waiting"]) + len(call) - 2 > 4096:
                return [-1]
            self.second.now["waiting"] += call[2:]
            return [0]
        return self.second.go(call[1], call[2]) if call[0] == 6 else self.second.state()


class Reference(unittest.TestCase):
    def compare(self, calls):
        other = Object()
        self.assertEqual(answers_to(*calls), [other.answer(call) for call in calls], calls)

    def drawn_calls(self, chance, made, count):
        calls = [[4, len(made)] + made]
        for _ in range(count):
            pick = chance.randrange(10)
            if pick < 5:
                calls.append([6, chance.choice([0, 1, 2, 5, 30, 200]), chance.choice([0, 1, 2, 5, 100, 4294967295])])
            elif pick < 8:
                calls.append([7])
            else:
                given = [chance.choice([-2, -1, 0, 1, 2, 3, 7, LEAST, MOST]) for _ in range(chance.randrange(5))]
                calls.append([5, len(given)] + given)
            if chance.random() < 0.05:
                calls.append(chance.choice([[6, 20001, 0], [5, 1, MOST + 1], [5, 2, 0, LEAST - 1], [5, 4097] + [0] * 4097]))
        return calls

    def test_any_bytes(self):
        chance = random.Random(41)
        for _ in range(1500):
            made = [chance.randrange(256) for _ in range(chance.randrange(60))]
            self.compare(self.drawn_calls(chance, made, 6))

    def test_bytes_of_instructions(self):
        chance = random.Random(42)
        for _ in range(2500):
            made = [chance.choice([chance.randrange(21), 0, 1, 2, 18]) for _ in range(chance.randrange(100))]
            self.compare(self.drawn_calls(chance, made, 8))

    def instructions(self, chance, count):
        numbers = [0, 0, 1, 1, -1, 2, 3, -7, LEAST, MOST, LEAST + 1, 2 ** 31, -2 ** 32]
        rows = []
        for number in range(count):
            name = chance.choice(NAMES[1:] + ["push"] * 12 + ["load", "load", "get", "call", "loadl", "loadl", "put"])
            place = f"p{chance.randrange(count + 1)}"
            operands = {"push": [chance.choice(numbers)], "load": [chance.randrange(3)], "store": [chance.randrange(3)],
                        "loadl": [chance.randrange(3)], "storel": [chance.randrange(3)], "jmp": [place], "jz": [place],
                        "call": [place, chance.choice([0, 0, 1, 1, 2, 3])], "line": [chance.randrange(300)]}
            rows.append(" ".join([f"p{number}:", name] + [str(part) for part in operands.get(name, [])]))
        return code(*rows, f"p{count}: halt")

    def test_instructions(self):
        chance = random.Random(43)
        seen = {}
        for _ in range(4000):
            calls = self.drawn_calls(chance, self.instructions(chance, chance.randrange(1, 40)), 8)
            self.compare(calls + [[7]])
            standing = answers_to(*calls, [7])[-1][0]
            seen[standing] = seen.get(standing, 0) + 1
        self.assertEqual(sorted(number for number in seen if seen[number] > 5), [0, 1, 2, 3, 4, 6, 7])

    def test_full_stacks_and_many_calls(self):
        chance = random.Random(44)
        seen = {}
        for _ in range(200):
            fill = ["push 3"] * chance.choice([1020, 1022, 1023, 1024])
            calls = [f"c{number}: call c{number + 1} {chance.choice([0, 0, 0, 1])}" for number in range(chance.choice([1, 199, 200]))]
            rows = [row for row in (fill, calls, fill[:3]) if chance.random() < 0.8]
            made = code(*[part for row in rows for part in row], f"c{len(calls)}: line 9") + self.instructions(chance, 20)
            go = [6, 5, 1]
            calls = [[4, len(made)] + made, [6, 1000, 9], [7], [6, 230, 9], [7], go, [7], go, [7], [5, 2, 7, 8], go, [7]]
            self.compare(calls)
            standing = answers_to(*calls)[-1][0]
            seen[standing] = seen.get(standing, 0) + 1
        self.assertTrue(seen.get(3, 0) > 5 and seen.get(5, 0) > 5, seen)

    def test_compiled_texts(self):
        maker = RunMaker(45)
        for _ in range(400):
            made = compile_text(text_of(*maker.rows()))
            if made[0] == 0:
                self.compare(self.drawn_calls(maker.random, made[1:], 8))

    def test_drawn_bytes_for_some_thousand_instructions(self):
        chance = random.Random(46)
        carried = 0
        for _ in range(300):
            # Jumps back keep the machine going; what lies between is drawn.
            made = code("jmp 10, jmp 0") + [chance.choice([2, 1, 13, 20, 2, chance.randrange(21)]) for _ in range(40)]
            made += code("jmp 0") * 3
            calls = [[4, len(made)] + made] + [[5, 3, 1, 2, 3], [6, 400, 1000], [7]] * 2
            self.compare(calls)
            carried += 800 if answers_to(*calls)[-1] == [7, 0] else 0
        self.assertGreater(carried, 5000)


if __name__ == "__main__":
    unittest.main()
