"""The code of a program."""

from linewords.instructions import CALL, GET, HALT, JMP, JZ, LINE, PUT, RET, Instruction, bytes_of


# Where an instruction goes is told by a line's place here: where lines begin is known only when all are there.
def line_instructions(line):
    told = Instruction(LINE, [line.number])
    if line.kind == "set":
        return [told] + line.steps + [line.store]
    if line.kind == "get":
        return [Instruction(GET, []), line.store]
    if line.kind == "put":
        return [told] + line.steps + [Instruction(PUT, [])]
    if line.kind in ("if", "while"):
        return [told] + line.steps + [Instruction(JZ, [line.target])]
    if line.kind in ("else", "end while", "proc"):
        return [Instruction(JMP, [line.target])]
    if line.kind == "end proc":
        return [Instruction(RET, [])]
    if line.kind == "do":
        return [told] + line.steps + [Instruction(CALL, [line.target, line.amount])]
    if line.kind == "stop":
        return [Instruction(HALT, [])]
    return []


def beginnings(parts):
    places = []
    at = 0
    for part in parts:
        places.append(at)
        at = at + sum([instruction.size for instruction in part])
    return places


def with_byte_place(instruction, places):
    if instruction.number not in (JMP, JZ, CALL):
        return instruction
    operands = instruction.operands
    return Instruction(instruction.number, [places[operands[0]]] + operands[1:])


def code_of(program):
    parts = [line_instructions(line) for line in program]
    parts.append([Instruction(HALT, [])])
    places = beginnings(parts)
    code = []
    for part in parts:
        for instruction in part:
            code.extend(bytes_of(with_byte_place(instruction, places)))
    return code
