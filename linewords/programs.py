"""A right text as a program: of each line what it works out, what it stores and where it may go.

A program is a list of lines; a place in it counts from 0, so a line's number is also the place behind it.
"""

from linewords.instructions import LOAD, LOADL, PUSH, STORE, STOREL, Instruction
from linewords.lines import is_variable, line_kind, number_value, operands_wanted, split_lines, split_words

FIRST_LETTER = 97

# The operations' words with the numbers of their instructions: + - * / mod < = and !
OPERATION_NUMBERS = {(43,): 6, (45,): 7, (42,): 8, (47,): 9, (37,): 10, (60,): 11, (61,): 12, (33,): 13}


class Line:
    def __init__(self, number, kind):
        self.number = number
        # The first word, or "nothing"; an end that does something has its block's too: "end while", "end proc".
        self.kind = kind
        # The instructions of its expressions, one expression's behind another's.
        self.steps = []
        # The instruction that gives its variable a value.
        self.store = None
        # The place to go to instead of the one behind it, and for a do how many values go there.
        self.target = None
        self.amount = 0


def variable_instruction(word, parameters, own, shared):
    if word in parameters:
        return Instruction(own, [parameters.index(word)])
    return Instruction(shared, [word[0] - FIRST_LETTER])


def word_instruction(word, parameters):
    if word in OPERATION_NUMBERS:
        return Instruction(OPERATION_NUMBERS[word], [])
    if is_variable(word):
        return variable_instruction(word, parameters, LOADL, LOAD)
    return Instruction(PUSH, [number_value(word)])


def expression_steps(words, parameters):
    # Read from the right, a word finds its operands ready, the first one on top.
    ready = []
    for word in reversed(words):
        steps = []
        for operand in range(operands_wanted(word)):
            steps.extend(ready.pop())
        steps.append(word_instruction(word, parameters))
        ready.append(steps)
    joined = []
    for steps in reversed(ready):
        joined.extend(steps)
    return joined


# Each procedure's first place and how many parameters it has, found first, as a do may stand before its proc.
def procedures_of(rows):
    found = {}
    for place, words in enumerate(rows):
        if line_kind(words) == "proc":
            found[words[1]] = (place + 1, len(words) - 2)
    return found


class Builder:
    def __init__(self, procedures):
        self.procedures = procedures
        self.lines = []
        # The lines that wait for their block's end, the innermost last; an else waits in the place of its if.
        self.heads = []
        # Those of the procedure that the next line stands in.
        self.parameters = []

    def take(self, words):
        line = Line(len(self.lines) + 1, line_kind(words))
        self.lines.append(line)
        self.fill(line, words)
        if line.kind in ("if", "while", "proc"):
            self.heads.append(line)
        if line.kind == "proc":
            self.parameters = words[2:]
        if line.kind == "else":
            head = self.heads.pop()
            head.target = line.number
            self.heads.append(line)
        if line.kind == "end":
            self.close(line)

    def fill(self, line, words):
        if line.kind in ("put", "if", "while"):
            line.steps = expression_steps(words[1:], self.parameters)
        if line.kind in ("set", "do"):
            line.steps = expression_steps(words[2:], self.parameters)
        if line.kind in ("set", "get"):
            line.store = variable_instruction(words[1], self.parameters, STOREL, STORE)
        if line.kind == "do":
            line.target = self.procedures[words[1]][0]
            line.amount = self.procedures[words[1]][1]

    def close(self, line):
        head = self.heads.pop()
        head.target = line.number
        if head.kind == "while":
            line.kind = "end while"
            line.target = head.number - 1
        if head.kind == "proc":
            line.kind = "end proc"
            self.parameters = []


# Of a text without a wrong line.
def program_of(text):
    rows = [split_words(line) for line in split_lines(text)]
    builder = Builder(procedures_of(rows))
    for words in rows:
        builder.take(words)
    return builder.lines
