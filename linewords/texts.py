"""The calls on texts of the language; each stands by itself."""

from linewords.arithmetic import in_range
from linewords.compiler import code_of
from linewords.instructions import bytes_of, instruction_at
from linewords.lines import first_wrong_line
from linewords.meaning import Run
from linewords.programs import program_of
from linewords.runs import MOST_STEPS
from linewords.spelling import instruction_of, spelled

MOST_BYTES = 16384


def check(text):
    if len(text) > MOST_BYTES:
        return [-1]
    return [first_wrong_line(text)]


def compile_text(text):
    if check(text) != [0]:
        return [-1]
    return [0] + code_of(program_of(text))


def mean(n, text, given):
    if n > MOST_STEPS or not all([in_range(number) for number in given]):
        return [-3]
    if check(text) != [0]:
        return [-9]
    run = Run(program_of(text), given)
    run.run_lines(n)
    return run.told() + run.out


def show(at, code):
    instruction = instruction_at(code, at)
    if instruction is None:
        return [0]
    return [instruction.size] + [ord(sign) for sign in spelled(instruction)]


def asm(text):
    instruction = instruction_of(text)
    if instruction is None:
        return [-1]
    return [instruction.size] + bytes_of(instruction)
