"""What a program means: it is run by its lines, without the machine."""

from linewords.arithmetic import inverse, operation_result, operation_standing
from linewords.instructions import LOAD, LOADL, NOT, PUSH, STOREL
from linewords.runs import ENDED, GOES_ON, MOST_CALLS, TOO_MANY_CALLS, WAITING, Call, standing_and_line

LETTERS = 26


class Run:
    def __init__(self, program, given):
        self.program = program
        self.given = given
        self.taken = 0
        self.at = 0
        self.shared = [0] * LETTERS
        # The latest last.
        self.calls = []
        self.out = []
        # What the next line's expressions come to.
        self.results = []

    def work_out(self, steps):
        values = []
        for step in steps:
            if step.number == PUSH:
                values.append(step.operands[0])
            elif step.number == LOAD:
                values.append(self.shared[step.operands[0]])
            elif step.number == LOADL:
                values.append(self.calls[-1].own[step.operands[0]])
            elif step.number == NOT:
                values.append(inverse(values.pop()))
            else:
                b = values.pop()
                a = values.pop()
                standing = operation_standing(step.number, a, b)
                if standing != GOES_ON:
                    return standing
                values.append(operation_result(step.number, a, b))
        self.results = values
        return GOES_ON

    # Changes nothing but the results, which run_line then leans on.
    def look_at_line(self):
        if self.at == len(self.program):
            return ENDED
        line = self.program[self.at]
        if line.kind == "stop":
            return ENDED
        standing = self.work_out(line.steps)
        if standing != GOES_ON:
            return standing
        if line.kind == "do" and len(self.calls) == MOST_CALLS:
            return TOO_MANY_CALLS
        if line.kind == "get" and self.taken == len(self.given):
            return WAITING
        return GOES_ON

    def store_value(self, instruction, value):
        if instruction.number == STOREL:
            own = self.calls[-1].own
            own[instruction.operands[0]] = value
        else:
            self.shared[instruction.operands[0]] = value

    def run_line(self):
        line = self.program[self.at]
        if line.kind == "set":
            self.store_value(line.store, self.results[0])
        if line.kind == "get":
            self.store_value(line.store, self.given[self.taken])
            self.taken = self.taken + 1
        if line.kind == "put":
            self.out.append(self.results[0])
        if line.kind == "do":
            self.calls.append(Call(self.at + 1, self.results))
        self.at = self.place_behind(line)

    def place_behind(self, line):
        if line.kind == "end proc":
            return self.calls.pop().back
        passed = line.kind in ("if", "while") and self.results[0] != 0
        if passed or line.target is None:
            return self.at + 1
        return line.target

    def run_lines(self, n):
        for count in range(n):
            if self.look_at_line() != GOES_ON:
                return
            self.run_line()

    # A line behind the last one has no number, but nothing goes wrong there either.
    def told(self):
        return standing_and_line(self.look_at_line(), self.at + 1)
