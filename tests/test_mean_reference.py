"""mean against a second writing of what the language says, on many made texts; the same texts each time.

Here blocks are a tree that is walked by calls within calls; there they are jumps from line to line.
"""

import random
import sys
import unittest

from helpers import LEAST, MOST, Maker, RunMaker, text_of
from linewords.texts import check, mean


class Over(Exception):
    """The run has come to where its standing is told."""


def tree(rows, number=0):
    """The nodes of a block, from the line with the number on, and the number of the line that ends it."""
    nodes = []
    while number < len(rows) and rows[number][:1] not in (["else"], ["end"]):
        words = rows[number]
        node = {"number": number + 1, "words": words}
        if words[:1] and words[0] in ("if", "while", "proc"):
            node["first"], number = tree(rows, number + 1)
            node["second"] = None
            if rows[number] == ["else"]:
                node["else"] = number + 1
                node["second"], number = tree(rows, number + 1)
            node["end"] = number + 1
        nodes.append(node)
        number += 1
    return nodes, number


class Walk:
    def __init__(self, n, rows, given):
        self.left = n
        self.given = list(given)
        self.shared = {}
        self.depth = 0
        self.put = []
        self.nodes = tree(rows)[0]
        self.procedures = {node["words"][1]: node for node in self.nodes if node["words"][:1] == ["proc"]}

    def answer(self):
        try:
            self.block(self.nodes, {})
            return [0, 0] + self.put
        except Over as over:
            return list(over.args) + self.put

    def pass_line(self):
        if self.left == 0:
            raise Over(7, 0)
        self.left -= 1

    def value(self, words, own, number):
        word = words.pop(0)
        if word in ("+", "-", "*", "/", "%", "<", "="):
            a = self.value(words, own, number)
            return self.operation(word, a, self.value(words, own, number), number)
        if word == "!":
            return int(not self.value(words, own, number))
        if word.isalpha():
            return own[word] if word in own else self.shared.get(word, 0)
        return int(word)

    def operation(self, sign, a, b, number):
        if sign in ("<", "="):
            return int(a < b if sign == "<" else a == b)
        if sign in ("/", "%") and b == 0:
            raise Over(2, number)
        if sign == "/":
            result = abs(a) // abs(b) * (1 if a * b >= 0 else -1)
        elif sign == "%":
            return a - b * (abs(a) // abs(b) * (1 if a * b >= 0 else -1))
        else:
            result = {"+": a + b, "-": a - b, "*": a * b}[sign]
        if not LEAST <= result <= MOST:
            raise Over(1, number)
        return result

    def block(self, nodes, own):
        for node in nodes:
            words = node["words"]
            first = words[0] if words and words[0][0] != "#" else ""
            if first == "stop":
                raise Over(0, 0)
            if first == "get" and not self.given:
                raise Over(6, 0)
            getattr(self, "line_" + first)(node, words[1:], own)

    def line_(self, node, words, own):
        self.pass_line()

    def give(self, letter, own, value):
        (own if letter in own else self.shared)[letter] = value

    def line_set(self, node, words, own):
        value = self.value(words[1:], own, node["number"])
        self.pass_line()
        self.give(words[0], own, value)

    def line_get(self, node, words, own):
        self.pass_line()
        self.give(words[0], own, self.given.pop(0))

    def line_put(self, node, words, own):
        value = self.value(words, own, node["number"])
        self.pass_line()
        self.put.append(value)

    def line_if(self, node, words, own):
        value = self.value(list(words), own, node["number"])
        self.pass_line()
        if value:
            self.block(node["first"], own)
            self.pass_line()
        elif node["second"] is not None:
            self.block(node["second"], own)
            self.pass_line()

    def line_while(self, node, words, own):
        while True:
            value = self.value(list(words), own, node["number"])
            self.pass_line()
            if not value:
                return
            self.block(node["first"], own)
            self.pass_line()

    def line_proc(self, node, words, own):
        self.pass_line()

    def line_do(self, node, words, own):
        left = words[1:]
        values = []
        while left:
            values.append(self.value(left, own, node["number"]))
        if self.depth == 200:
            raise Over(3, node["number"])
        self.pass_line()
        procedure = self.procedures[words[0]]
        self.depth += 1
        self.block(procedure["first"], dict(zip(procedure["words"][2:], values)))
        self.pass_line()
        self.depth -= 1


class Reference(unittest.TestCase):
    def setUp(self):
        before = sys.getrecursionlimit()
        sys.setrecursionlimit(20000)
        self.addCleanup(sys.setrecursionlimit, before)

    def compare(self, n, rows, given):
        answer = mean(n, text_of(*rows), given)
        self.assertEqual(answer, Walk(n, [row.split() for row in rows], given).answer(), (n, rows, given))
        return answer

    def test_right_texts(self):
        maker = RunMaker(21)
        seen = {}
        for _ in range(3000):
            rows = maker.rows()
            if any(len(row.split()) > 60 for row in rows):
                continue
            given = maker.given(maker.random.randrange(12))
            answer = self.compare(maker.random.choice([300, 2000]), rows, given)
            seen[answer[0]] = seen.get(answer[0], 0) + 1
        # Each way to stand must be among them, or the comparison would say little.
        self.assertEqual(sorted(number for number in seen if seen[number] > 20), [0, 1, 2, 3, 6, 7])

    def test_every_n(self):
        maker = RunMaker(22)
        for _ in range(150):
            rows = maker.rows()
            if all(len(row.split()) <= 60 for row in rows):
                given = maker.given(5)
                for n in range(40):
                    self.compare(n, rows, given)

    def test_a_text_is_taken_just_if_no_line_is_wrong(self):
        maker = Maker(23)
        taken = 0
        for _ in range(3000):
            text = maker.text()
            answer = mean(20, text, [1, 2])
            self.assertEqual(answer == [-9], check(text) != [0], bytes(text))
            taken += answer != [-9]
        self.assertTrue(500 < taken < 2500, taken)

    def test_expressions(self):
        chance = random.Random(24)
        edges = [LEAST, LEAST + 1, -2 ** 32, -3, -2, -1, 0, 1, 2, 3, 2 ** 31, 3037000499, 3037000500, MOST - 1, MOST]
        for a in edges:
            for b in edges:
                for sign in "+-*/%<=":
                    self.compare(3, ["get a", "get b", f"put {sign} a b"], [a, b])
                self.compare(3, ["get a", "get b", "put + ! a ! b"], [a, b])
        for _ in range(3000):
            words = " ".join(chance.choice("+-*/%<=") for _ in range(3)) + " a b c d"
            rows = ["get a", "get b", "get c", "get d", "put " + words]
            self.compare(5, rows, [chance.choice(edges) for _ in range(4)])


if __name__ == "__main__":
    unittest.main()
