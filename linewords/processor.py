"""The stack machine: how each instruction stands, and what it does.

An instruction is carried out only where it can go on, so what it does leans on what has been looked at before.
"""

from linewords.arithmetic import inverse, operation_result, operation_standing
from linewords.instructions import PUT, instruction_at
from linewords.runs import ENDED, FULL_STACK, GOES_ON, IMPOSSIBLE, MOST_CALLS, TOO_MANY_CALLS, WAITING
from linewords.runs import Call, standing_and_line

MOST_STACKED = 1024
SHARED_NUMBERS = 256


def standing_of_halt(machine, instruction):
    return ENDED


def standing_with_nothing_needed(machine, instruction):
    return GOES_ON


def standing_with_room_needed(machine, instruction):
    return FULL_STACK if len(machine.stack) == MOST_STACKED else GOES_ON


def standing_with_one_needed(machine, instruction):
    return GOES_ON if machine.stack else IMPOSSIBLE


def has_own_number(machine, instruction):
    return len(machine.calls) > 0 and instruction.operands[0] < len(machine.calls[-1].own)


def standing_of_loadl(machine, instruction):
    if not has_own_number(machine, instruction):
        return IMPOSSIBLE
    return standing_with_room_needed(machine, instruction)


def standing_of_storel(machine, instruction):
    if not has_own_number(machine, instruction):
        return IMPOSSIBLE
    return standing_with_one_needed(machine, instruction)


def standing_of_operation(machine, instruction):
    stack = machine.stack
    if len(stack) < 2:
        return IMPOSSIBLE
    return operation_standing(instruction.number, stack[-2], stack[-1])


def standing_of_call(machine, instruction):
    if len(machine.stack) < instruction.operands[1]:
        return IMPOSSIBLE
    return TOO_MANY_CALLS if len(machine.calls) == MOST_CALLS else GOES_ON


def standing_of_ret(machine, instruction):
    return GOES_ON if machine.calls else IMPOSSIBLE


def standing_of_get(machine, instruction):
    if len(machine.stack) == MOST_STACKED:
        return FULL_STACK
    return GOES_ON if machine.waiting else WAITING


# Of halt, which is never carried out.
def do_nothing(machine, instruction):
    pass


def do_push(machine, instruction):
    machine.stack.append(instruction.operands[0])


def do_load(machine, instruction):
    machine.stack.append(machine.shared[instruction.operands[0]])


def do_store(machine, instruction):
    machine.shared[instruction.operands[0]] = machine.stack.pop()


def do_loadl(machine, instruction):
    machine.stack.append(machine.calls[-1].own[instruction.operands[0]])


def do_storel(machine, instruction):
    own = machine.calls[-1].own
    own[instruction.operands[0]] = machine.stack.pop()


def do_operation(machine, instruction):
    b = machine.stack.pop()
    a = machine.stack.pop()
    machine.stack.append(operation_result(instruction.number, a, b))


def do_not(machine, instruction):
    machine.stack.append(inverse(machine.stack.pop()))


def do_jmp(machine, instruction):
    machine.at = instruction.operands[0]


def do_jz(machine, instruction):
    if machine.stack.pop() == 0:
        machine.at = instruction.operands[0]


def do_call(machine, instruction):
    own = machine.stack[len(machine.stack) - instruction.operands[1]:]
    # One by one, as what stays below may be long.
    for number in own:
        machine.stack.pop()
    machine.calls.append(Call(machine.at, own))
    machine.at = instruction.operands[0]


def do_ret(machine, instruction):
    machine.at = machine.calls.pop().back


def do_put(machine, instruction):
    machine.out.append(machine.stack.pop())


def do_get(machine, instruction):
    machine.stack.append(machine.waiting.pop(0))


def do_line(machine, instruction):
    machine.line = instruction.operands[0]


# Both by the instructions' numbers.
STANDINGS = (
    standing_of_halt,
    standing_with_room_needed,
    standing_with_room_needed,
    standing_with_one_needed,
    standing_of_loadl,
    standing_of_storel,
    standing_of_operation,
    standing_of_operation,
    standing_of_operation,
    standing_of_operation,
    standing_of_operation,
    standing_of_operation,
    standing_of_operation,
    standing_with_one_needed,
    standing_with_nothing_needed,
    standing_with_one_needed,
    standing_of_call,
    standing_of_ret,
    standing_with_one_needed,
    standing_of_get,
    standing_with_nothing_needed,
)
ACTIONS = (
    do_nothing,
    do_push,
    do_load,
    do_store,
    do_loadl,
    do_storel,
    do_operation,
    do_operation,
    do_operation,
    do_operation,
    do_operation,
    do_operation,
    do_operation,
    do_not,
    do_jmp,
    do_jz,
    do_call,
    do_ret,
    do_put,
    do_get,
    do_line,
)


class Machine:
    def __init__(self, code):
        self.code = code
        # The instructions come to so far, by their places: most are come to again and again.
        self.met = {}
        self.at = 0
        self.stack = []
        self.shared = [0] * SHARED_NUMBERS
        # The latest last.
        self.calls = []
        self.line = 0
        # The numbers given that have not been taken yet.
        self.waiting = []
        # What has been put since the latest going began.
        self.out = []

    # None where no whole instruction stands.
    def instruction_here(self):
        if self.at not in self.met:
            self.met[self.at] = instruction_at(self.code, self.at)
        return self.met[self.at]

    def standing(self):
        instruction = self.instruction_here()
        if instruction is None:
            return IMPOSSIBLE
        return STANDINGS[instruction.number](self, instruction)

    def told(self):
        return standing_and_line(self.standing(), self.line)

    def go(self, n, cap):
        self.out = []
        for count in range(n):
            if self.standing() != GOES_ON:
                return
            instruction = self.instruction_here()
            if instruction.number == PUT and len(self.out) == cap:
                return
            # Moved on first: a call comes back behind itself, and a jump goes elsewhere.
            self.at = self.at + instruction.size
            ACTIONS[instruction.number](self, instruction)
