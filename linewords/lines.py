"""The language's lines: their words, how each is rightly written, and which is the first wrong one.

A word is a tuple of its bytes, so that any byte may stand in it and a dict can be asked for it.
"""

LINE_FEED = 10
BLANKS = (32, 9, 13)
HASH = 35
MINUS = 45
ZERO = 48
NINE = 57

MOST_WORDS = 60
MOST_DIGITS = 18
MOST_PARAMETERS = 4
MOST_BLOCKS = 40

COMMANDS = {
    (115, 101, 116): "set",
    (103, 101, 116): "get",
    (112, 117, 116): "put",
    (105, 102): "if",
    (101, 108, 115, 101): "else",
    (119, 104, 105, 108, 101): "while",
    (112, 114, 111, 99): "proc",
    (101, 110, 100): "end",
    (100, 111): "do",
    (115, 116, 111, 112): "stop",
}

# The operations' words with their numbers of operands: + - * / mod < = and !
OPERATIONS = {(43,): 2, (45,): 2, (42,): 2, (47,): 2, (37,): 2, (60,): 2, (61,): 2, (33,): 1}


def split_lines(text):
    lines = []
    start = 0
    for at, byte in enumerate(text):
        if byte == LINE_FEED:
            lines.append(text[start:at])
            start = at + 1
    # Behind a last line feed no further line begins.
    if start < len(text):
        lines.append(text[start:])
    return lines


def split_words(line):
    words = []
    word = []
    for byte in line:
        if byte not in BLANKS:
            word.append(byte)
        elif word:
            words.append(tuple(word))
            word = []
    if word:
        words.append(tuple(word))
    return words


def is_variable(word):
    return len(word) == 1 and 97 <= word[0] <= 122


def is_procedure(word):
    return len(word) == 1 and 65 <= word[0] <= 90


def are_digits(signs):
    return len(signs) > 0 and all([ZERO <= sign <= NINE for sign in signs])


def is_number(word):
    digits = word[1:] if word[0] == MINUS else word
    return len(digits) <= MOST_DIGITS and are_digits(digits)


# Of digits, perhaps with a minus before them.
def number_value(word):
    value = 0
    for sign in word:
        if sign != MINUS:
            value = value * 10 + sign - ZERO
    return -value if MINUS in word else value


# -1 if no expression begins with the word.
def operands_wanted(word):
    if word in OPERATIONS:
        return OPERATIONS[word]
    if is_variable(word) or is_number(word):
        return 0
    return -1


def are_expressions(words, count):
    # Counting what is still missing goes through any nesting without a call within a call.
    missing = count
    for word in words:
        operands = operands_wanted(word)
        if missing == 0 or operands < 0:
            return False
        missing = missing - 1 + operands
    return missing == 0


def line_kind(words):
    if not words or words[0][0] == HASH:
        return "nothing"
    return COMMANDS.get(words[0], "unknown")


# Asked of every line, wherever it stands: a do may lean on a proc line whose place is wrong.
def is_proc(words):
    if line_kind(words) != "proc" or len(words) < 2 or not is_procedure(words[1]):
        return False
    parameters = words[2:]
    if len(parameters) > MOST_PARAMETERS or len(set(parameters)) < len(parameters):
        return False
    return all([is_variable(parameter) for parameter in parameters])


def is_do(words, told):
    return len(words) > 1 and words[1] in told and are_expressions(words[2:], told[words[1]])


# The procedures that a do may name, with their numbers of parameters; found first, as a do may stand before its proc.
def told_procedures(lines):
    told = {}
    for words in lines:
        if is_proc(words):
            # Of several with one name the first tells.
            told.setdefault(words[1], len(words) - 2)
    return told


# Looks at the line's words alone; Place looks at where it stands.
def is_written(words, told):
    kind = line_kind(words)
    if len(words) > MOST_WORDS:
        return False
    if kind in ("else", "end", "stop"):
        return len(words) == 1
    if kind in ("put", "if", "while"):
        return are_expressions(words[1:], 1)
    if kind == "set":
        return len(words) > 1 and is_variable(words[1]) and are_expressions(words[2:], 1)
    if kind == "get":
        return len(words) == 2 and is_variable(words[1])
    if kind == "proc":
        return is_proc(words)
    if kind == "do":
        return is_do(words, told)
    return kind == "nothing"


# Where among the blocks and procedures the next line stands; only lines rightly written are brought here.
class Place:
    def __init__(self):
        # The blocks that have no end yet, the innermost last; an if that has its else is kept as "else".
        self.blocks = []
        self.begun = {}

    def allows(self, words):
        kind = line_kind(words)
        if kind in ("if", "while"):
            return len(self.blocks) < MOST_BLOCKS
        if kind == "proc":
            return len(self.blocks) == 0 and words[1] not in self.begun
        if kind == "else":
            return len(self.blocks) > 0 and self.blocks[-1] == "if"
        if kind == "end":
            return len(self.blocks) > 0
        return True

    def go_behind(self, words):
        kind = line_kind(words)
        if kind in ("if", "while", "proc"):
            self.blocks.append(kind)
        if kind == "proc":
            self.begun[words[1]] = True
        if kind == "else":
            self.blocks[-1] = kind
        if kind == "end":
            self.blocks.pop()


# 0 if no line is wrong.
def first_wrong_line(text):
    lines = [split_words(line) for line in split_lines(text)]
    told = told_procedures(lines)
    place = Place()
    for number, words in enumerate(lines, start=1):
        if not is_written(words, told) or not place.allows(words):
            return number
        place.go_behind(words)
    if place.blocks:
        return len(lines) + 1
    return 0
