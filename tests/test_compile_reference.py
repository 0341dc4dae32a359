"""compile_text against a second writing of the compiler, on many made texts; the same texts each time."""

import unittest

from helpers import Maker, code
from linewords.texts import check, compile_text

OPERATIONS = dict(zip("+-*/%<=", "add sub mul div mod lt eq".split()))


def partner(rows, at, wanted):
    """The number of the first of the wanted lines behind the place that stands in no inner block."""
    depth = 0
    for number in range(at + 1, len(rows)):
        if depth == 0 and rows[number][:1] and rows[number][0] in wanted:
            return number
        if rows[number][:1] in (["if"], ["while"], ["proc"]):
            depth += 1
        if rows[number][:1] == ["end"]:
            depth -= 1
    return None


def expression(words, own):
    """The code of the expression that the words begin with; its words are taken off."""
    word = words.pop(0)
    if word == "!":
        return expression(words, own) + ["not"]
    if word in OPERATIONS:
        first = expression(words, own)
        return first + expression(words, own) + [OPERATIONS[word]]
    if word.isalpha():
        return [f"loadl {own.index(word)}" if word in own else f"load {ord(word) - 97}"]
    return [f"push {int(word)}"]


def expressions(words, own):
    found = []
    while words:
        found += expression(words, own)
    return found


def store(letter, own):
    return f"storel {own.index(letter)}" if letter in own else f"store {ord(letter) - 97}"


def own_letters(rows, at):
    for number in range(at, -1, -1):
        if rows[number][:1] == ["proc"] and partner(rows, number, ["end"]) > at:
            return rows[number][2:]
    return []


def head_of(rows, at):
    return [number for number in range(at) if rows[number][:1] in (["if"], ["while"], ["proc"])
            and partner(rows, number, ["end"]) == at][0]


def line_code(rows, at):
    """A line's instructions; @n stands for where the line n (from 0) begins."""
    words = rows[at]
    own = own_letters(rows, at)
    first = words[0] if words and words[0][0] != "#" else ""
    told = [f"line {at + 1}"]
    if first == "set":
        return told + expressions(words[2:], own) + [store(words[1], own)]
    if first == "get":
        return ["get", store(words[1], own)]
    if first == "put":
        return told + expressions(words[1:], own) + ["put"]
    if first in ("if", "while"):
        behind = partner(rows, at, ["end", "else"] if first == "if" else ["end"]) + 1
        return told + expressions(words[1:], own) + [f"jz @{behind}"]
    if first in ("else", "proc"):
        return [f"jmp @{partner(rows, at, ['end']) + 1}"]
    if first == "do":
        body = [number for number, row in enumerate(rows) if row[:2] == ["proc", words[1]]][0] + 1
        return told + expressions(words[2:], own) + [f"call @{body} {len(rows[body - 1]) - 2}"]
    if first == "end":
        head = head_of(rows, at)
        return {"if": [], "while": [f"jmp @{head}"], "proc": ["ret"]}[rows[head][0]]
    return ["halt"] if first == "stop" else []


def reference(rows):
    words = [row.split() for row in rows]
    parts = [line_code(words, at) for at in range(len(words))] + [["halt"]]
    begins = [0]
    for part in parts:
        begins.append(begins[-1] + sum(len(code(written.replace("@", ""))) for written in part))
    found = []
    for part in parts:
        for written in part:
            placed = [str(begins[int(word[1:])]) if word[0] == "@" else word for word in written.split()]
            found += code(" ".join(placed))
    return [0] + found


class Reference(unittest.TestCase):
    def test_right_texts(self):
        maker = Maker(11)
        lengths = []
        for _ in range(2500):
            rows = maker.rows()
            # The maker knows no bound of a line's words.
            if any(len(row.split()) > 60 for row in rows):
                continue
            answer = compile_text([ord(sign) for sign in "\n".join(rows)])
            self.assertEqual(answer, reference(rows), rows)
            lengths.append(len(answer))
        self.assertGreater(sum(length > 256 for length in lengths), 100)

    def test_a_text_is_taken_just_if_no_line_is_wrong(self):
        maker = Maker(12)
        taken = 0
        for _ in range(5000):
            text = maker.text()
            answer = compile_text(text)
            self.assertEqual(answer == [-1], check(text) != [0], bytes(text))
            taken += answer != [-1]
        self.assertTrue(1000 < taken < 4000, taken)


if __name__ == "__main__":
    unittest.main()
