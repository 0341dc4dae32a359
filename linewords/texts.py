"""The calls on texts of the language; each stands by itself."""

from linewords.compiler import code_of
from linewords.lines import first_wrong_line
from linewords.programs import program_of

MOST_BYTES = 16384


def check(text):
    if len(text) > MOST_BYTES:
        return [-1]
    return [first_wrong_line(text)]


def compile_text(text):
    if check(text) != [0]:
        return [-1]
    return [0] + code_of(program_of(text))
