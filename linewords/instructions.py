"""The machine's instructions: their numbers, names and operands, and how they lie in code."""

HALT = 0
PUSH = 1
LOAD = 2
STORE = 3
LOADL = 4
STOREL = 5
ADD = 6
DIV = 9
MOD = 10
NOT = 13
JMP = 14
JZ = 15
CALL = 16
RET = 17
PUT = 18
GET = 19
LINE = 20

# By number: how many bytes each operand has.
WIDTHS = (
    (), (8,), (1,), (1,), (1,), (1,), (), (), (), (), (), (), (), (), (4,), (4,), (4, 1), (), (), (), (4,),
)


class Instruction:
    def __init__(self, number, operands):
        self.number = number
        self.operands = operands
        self.size = 1 + sum(WIDTHS[number])


# A number below 0 comes out modulo 256 to the width, as shifting and masking go downwards without an end.
def lowest_byte_first(number, width):
    return [(number >> (8 * place)) & 255 for place in range(width)]


def bytes_of(instruction):
    found = [instruction.number]
    for operand, width in zip(instruction.operands, WIDTHS[instruction.number]):
        found.extend(lowest_byte_first(operand, width))
    return found
