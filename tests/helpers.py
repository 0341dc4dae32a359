"""What several tests need: texts by their rows, code by its words, calls by their names, and makers of texts."""

import random
import struct

from linewords.machine import answers

NAMES = "halt push load store loadl storel add sub mul div mod lt eq not jmp jz call ret put get line".split()
LAYOUTS = {"push": "<q", "load": "<B", "store": "<B", "loadl": "<B", "storel": "<B", "jmp": "<I", "jz": "<I"}
LAYOUTS.update({"call": "<IB", "line": "<I"})

LEAST = -2 ** 63
MOST = 2 ** 63 - 1


def text_of(*rows):
    """The rows as a text's bytes, each with its line feed; a row's signs stand for the bytes 0 to 255."""
    return [ord(sign) for row in rows for sign in row + "\n"]


def text_without_last_feed(*rows):
    return text_of(*rows)[:-1]


def code(*rows):
    """The bytes of instructions that are written as words; a row may hold several, with commas between.

    `here: halt` gives the place of the halt a name, which `jmp here` may use.
    """
    parts = [written.split() for row in rows for written in row.split(",")]
    places = {}
    at = 0
    for words in parts:
        while words[0].endswith(":"):
            places[words.pop(0)[:-1]] = at
        at += 1 + struct.calcsize(LAYOUTS.get(words[0], "<"))
    found = []
    for name, *operands in parts:
        found.append(NAMES.index(name))
        found += struct.pack(LAYOUTS.get(name, "<"), *[places[word] if word in places else int(word) for word in operands])
    return found


def load(made):
    return [4, len(made)] + made


def give(*given):
    return [5, len(given)] + list(given)


def go(n=20000, cap=4294967295):
    return [6, n, cap]


STATE = [7]


def answers_to(*calls):
    """The answers to the calls, each by itself."""
    left = answers([number for call in calls for number in call])
    found = []
    while left:
        found.append(left[1:1 + left[0]])
        left = left[1 + left[0]:]
    return found


class Maker:
    """Makes texts that are mostly right, so that the few wrong lines stand anywhere."""

    def __init__(self, seed):
        self.random = random.Random(seed)

    def expression(self, depth=0):
        pick = self.random.random()
        if depth > 5 or pick < 0.55:
            return self.random.choice(["1", "-5", "0", "a", "b", "z", "9" * 18, "-" + "9" * 18])
        if pick < 0.65:
            return "! " + self.expression(depth + 1)
        sign = self.random.choice("+-*/%<=")
        return f"{sign} {self.expression(depth + 1)} {self.expression(depth + 1)}"

    def plain(self, procedures):
        pick = self.random.choice(["set", "get", "put", "do", "stop", "", "#"])
        if pick == "set":
            return f"set {self.random.choice('abz')} {self.expression()}"
        if pick == "get":
            return "get " + self.random.choice("abz")
        if pick == "put":
            return "put " + self.expression()
        if pick == "do" and procedures:
            name = self.random.choice(sorted(procedures))
            return " ".join(["do", name] + [self.expression() for _ in range(procedures[name])])
        return "" if pick == "do" else pick

    def block(self, procedures, depth):
        rows = []
        for _ in range(self.random.randrange(4)):
            if depth < 6 and self.random.random() < 0.35:
                head = self.random.choice(["if", "while"])
                rows += [f"{head} {self.expression()}"] + self.block(procedures, depth + 1)
                if head == "if" and self.random.random() < 0.5:
                    rows += ["else"] + self.block(procedures, depth + 1)
                rows.append("end")
            else:
                rows.append(self.plain(procedures))
        return rows

    def rows(self):
        names = self.random.sample("ABCD", self.random.randrange(4))
        procedures = {name: self.random.randrange(5) for name in names}
        rows = self.block(procedures, 0)
        for name in names:
            parameters = self.random.sample("abcz", procedures[name])
            rows += [" ".join(["proc", name] + parameters)] + self.block(procedures, 1) + ["end"]
            rows += self.block(procedures, 0)
        return rows

    def spoil(self, rows):
        """Changes a row or a word: takes it out, doubles it, puts another in its place."""
        at = self.random.randrange(len(rows))
        pick = self.random.randrange(5)
        words = rows[at].split()
        if pick == 0:
            del rows[at]
        elif pick == 1:
            rows.insert(at, self.random.choice(rows))
        elif pick == 2:
            rows.insert(at, self.random.choice(["end", "else", "if 1", "while a", "proc A", "proc B a", "do A", "do C 1"]))
        elif words and pick == 3:
            del words[self.random.randrange(len(words))]
            rows[at] = " ".join(words)
        else:
            odd = ["1", "a", "A", "-", "!", "+", "%", "--1", "1" * 19, "#", "end", "\x0b", "\xe4", "z " * 57]
            words.insert(self.random.randrange(len(words) + 1), self.random.choice(odd))
            rows[at] = " ".join(words)

    def text(self):
        rows = self.rows()
        for _ in range(self.random.choice([0, 1, 1, 2, 3])):
            if rows:
                self.spoil(rows)
        blank = self.random.choice([" ", "\t", "\r", " \r", "\t "])
        text = "\n".join(row.replace(" ", blank) for row in rows)
        return [ord(sign) for sign in text + self.random.choice(["", "\n", " ", "\n\n"])]


class RunMaker(Maker):
    """Makes right texts that are worth running: loops that mostly end, procedures, faults that don't come at once."""

    def expression(self, depth=0):
        pick = self.random.random()
        if depth > 3 or pick < 0.6:
            small = ["0", "1", "2", "-1", "3", "-7"]
            large = ["9" * 18, "-" + "9" * 18]
            return self.random.choice(list("abczabcz") + small + (large if pick < 0.05 else []))
        if pick < 0.67:
            return "! " + self.expression(depth + 1)
        sign = self.random.choice("++--**/%<=")
        return f"{sign} {self.expression(depth + 1)} {self.expression(depth + 1)}"

    def plain(self, procedures):
        row = super().plain(procedures)
        if row == "stop" and self.random.random() < 0.8:
            return "put a"
        return row

    def loop(self, procedures, depth):
        letter = self.random.choice("abcz")
        head = [f"set {letter} {self.random.randrange(1, 5)}", "while " + letter, f"set {letter} - {letter} 1"]
        return head + self.block(procedures, depth + 1) + ["end"]

    def block(self, procedures, depth):
        rows = []
        for _ in range(self.random.randrange(1, 5)):
            pick = self.random.random()
            if depth < 4 and pick < 0.15:
                rows += self.loop(procedures, depth)
            elif depth < 4 and pick < 0.3:
                rows += ["if " + self.expression()] + self.block(procedures, depth + 1)
                rows += ["else"] + self.block(procedures, depth + 1) if self.random.random() < 0.5 else []
                rows.append("end")
            elif depth < 4 and pick < 0.33:
                rows += ["while " + self.expression()] + self.block(procedures, depth + 1) + ["end"]
            else:
                rows.append(self.plain(procedures))
        return rows

    def given(self, most):
        small = list(range(-9, 10))
        edges = [LEAST, LEAST + 1, MOST, MOST - 1]
        return [self.random.choice(self.random.choice([small, small, small, edges])) for _ in range(most)]
