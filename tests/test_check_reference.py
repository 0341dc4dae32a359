"""check against a second writing of the rules, on many made texts; the same texts each time."""

import random
import re
import unittest

from helpers import Maker
from linewords.texts import check

NUMBER = re.compile(rb"-?[0-9]{1,18}\Z")
PROC_HEAD = re.compile(rb"proc [A-Z](?: [a-z]){0,4}\Z")


def words_of(line):
    return [word for word in re.split(rb"[ \t\r]+", line) if word]


def expression_end(words, at):
    """Where the expression at the place ends; None if there is none."""
    if at is None or at >= len(words):
        return None
    if NUMBER.match(words[at]) or re.match(rb"[a-z]\Z", words[at]):
        return at + 1
    if words[at] == b"!":
        return expression_end(words, at + 1)
    if words[at] in (b"+", b"-", b"*", b"/", b"%", b"<", b"="):
        return expression_end(words, expression_end(words, at + 1))
    return None


def all_expressions(words, count):
    at = 0
    for _ in range(count):
        at = expression_end(words, at)
    return at == len(words)


def proc_told(words):
    """The name and the number of parameters that a rightly written proc line tells; None of others."""
    if PROC_HEAD.match(b" ".join(words)) and len(words) == len(set(words)):
        return words[1], len(words) - 2
    return None


def misspelt(words, told):
    if len(words) > 60:
        return True
    if not words or words[0].startswith(b"#"):
        return False
    first, rest = words[0], words[1:]
    if first in (b"put", b"if", b"while"):
        return not all_expressions(rest, 1)
    if first == b"set":
        return not (rest and re.match(rb"[a-z]\Z", rest[0]) and all_expressions(rest[1:], 1))
    if first == b"proc":
        return proc_told(words) is None
    if first == b"do":
        return not (rest and rest[0] in told and all_expressions(rest[1:], told[rest[0]]))
    return not re.match(rb"(get [a-z]|else|end|stop)\Z", b" ".join(words))


def first_misplaced(rows):
    """The first line that stands where it may not, all lines before it being rightly written."""
    heads = []
    names = []
    for number, words in enumerate(rows, 1):
        first = words[0] if words else b""
        if first == b"proc":
            if heads or words[1:2] in names:
                return number
            names.append(words[1:2])
        if first in (b"if", b"while") and len(heads) >= 40:
            return number
        if first in (b"if", b"while", b"proc"):
            heads.append([first])
        if first in (b"else", b"end"):
            if not heads or first == b"else" and heads[-1] != [b"if"]:
                return number
            if first == b"else":
                heads[-1].append(first)
            else:
                heads.pop()
    return len(rows) + 1 if heads else None


def reference(text):
    if len(text) > 16384:
        return [-1]
    rows = bytes(text).split(b"\n")
    rows = [words_of(row) for row in (rows if rows[-1] else rows[:-1])]
    told = dict([pair for pair in map(proc_told, rows) if pair][::-1])
    wrong = [number for number, words in enumerate(rows, 1) if misspelt(words, told)]
    misplaced = first_misplaced(rows)
    return [min(wrong + ([misplaced] if misplaced else []), default=0)]


class Reference(unittest.TestCase):
    def compare(self, text):
        self.assertEqual(check(text), reference(text), bytes(text))

    def test_made_texts(self):
        maker = Maker(1)
        seen = {}
        for _ in range(6000):
            text = maker.text()
            self.compare(text)
            answer = min(check(text)[0], 5)
            seen[answer] = seen.get(answer, 0) + 1
        # Without right and wrong texts among them the comparison would say nothing.
        self.assertEqual(sorted(number for number in seen if seen[number] > 50), [0, 1, 2, 3, 4, 5])

    def test_rows_of_short_words(self):
        chance = random.Random(2)
        words = "set get put if else while proc end do stop a b A B 1 -1 + - ! % # \x0c".split(" ")
        for _ in range(6000):
            rows = [" ".join(chance.choices(words, k=chance.randrange(5))) for _ in range(chance.randrange(1, 4))]
            self.compare([ord(sign) for sign in "\n".join(rows)])

    def test_rows_of_blocks(self):
        chance = random.Random(3)
        rows = ["if 1", "while 1", "else", "end", "end", "proc A", "proc B a", "do A", "do B 1", "put 1", ""]
        for _ in range(6000):
            text = "\n".join(chance.choices(rows, k=chance.randrange(1, 12)))
            self.compare([ord(sign) for sign in text])

    def test_any_bytes(self):
        chance = random.Random(4)
        for length in list(range(40)) * 20 + [16383, 16384, 16385, 16500]:
            self.compare([chance.randrange(256) for _ in range(length)])
            self.compare(chance.choices(list(b"# \n\n\nendput1-+!"), k=length))


if __name__ == "__main__":
    unittest.main()
