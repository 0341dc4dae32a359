"""Instructions as words, and words as instructions."""

from linewords.arithmetic import in_range
from linewords.instructions import NAMES, PUSH, WIDTHS, Instruction
from linewords.lines import LINE_FEED, MINUS, ZERO, are_digits, number_value, split_words

BLANK = 32

# By its bytes: the most that an operand without a sign may be.
MOST_OPERANDS = {1: 255, 4: 4294967295}

# One of more digits, its leading zeros left out, is in no operand's range.
MOST_DIGITS = 20


def spelled(instruction):
    return " ".join([NAMES[instruction.number]] + [str(operand) for operand in instruction.operands])


def without_leading_zeros(digits):
    start = 0
    while start < len(digits) and digits[start] == ZERO:
        start = start + 1
    return digits[start:]


# None if the word stands for no whole number that could be an operand.
def whole_number(word):
    digits = word[1:] if word[0] == MINUS else word
    if not are_digits(digits):
        return None
    # Left out first: the words may be long, and the value of many digits takes its time.
    left = without_leading_zeros(digits)
    if len(left) > MOST_DIGITS:
        return None
    value = number_value(left)
    return -value if word[0] == MINUS else value


def operand_of(word, number, width):
    value = whole_number(word)
    if value is None:
        return None
    if number == PUSH:
        return value if in_range(value) else None
    # A minus is wrong here before a 0 too.
    if word[0] == MINUS or value > MOST_OPERANDS[width]:
        return None
    return value


def number_of_name(word):
    for number, name in enumerate(NAMES):
        if word == tuple([ord(sign) for sign in name]):
            return number
    return None


# None if the text's words are no instruction.
def instruction_of(text):
    words = split_words([BLANK if byte == LINE_FEED else byte for byte in text])
    number = number_of_name(words[0]) if words else None
    if number is None or len(words) - 1 != len(WIDTHS[number]):
        return None
    operands = []
    for word, width in zip(words[1:], WIDTHS[number]):
        operand = operand_of(word, number, width)
        if operand is None:
            return None
        operands.append(operand)
    return Instruction(number, operands)
