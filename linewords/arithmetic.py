"""The numbers that the language and the machine have, and the operations on them."""

from linewords.instructions import ADD, DIV, MOD
from linewords.runs import BY_ZERO, GOES_ON, OUT_OF_RANGE

LEAST_NUMBER = -9223372036854775808
MOST_NUMBER = 9223372036854775807


def in_range(number):
    return LEAST_NUMBER <= number <= MOST_NUMBER


def plus(a, b):
    return a + b


def minus(a, b):
    return a - b


def times(a, b):
    return a * b


# Python's own division cuts downwards; of numbers without a sign that is towards zero.
def quotient(a, b):
    size = abs(a) // abs(b)
    return size if (a < 0) == (b < 0) else -size


def remainder(a, b):
    size = abs(a) % abs(b)
    return -size if a < 0 else size


def less(a, b):
    return 1 if a < b else 0


def equal(a, b):
    return 1 if a == b else 0


def inverse(a):
    return 1 if a == 0 else 0


# In the order of their instructions, from add on.
OPERATIONS = (plus, minus, times, quotient, remainder, less, equal)


# How an operation's instruction stands with these numbers.
def operation_standing(number, a, b):
    if number in (DIV, MOD) and b == 0:
        return BY_ZERO
    if in_range(OPERATIONS[number - ADD](a, b)):
        return GOES_ON
    return OUT_OF_RANGE


def operation_result(number, a, b):
    return OPERATIONS[number - ADD](a, b)
