"""The calls on one object, load, give, go and state: read from one list and answered in one."""

from linewords.arithmetic import in_range
from linewords.processor import Machine
from linewords.runs import MOST_STEPS

LOAD = 4
GIVE = 5
GO = 6

MOST_CODE = 262208
MOST_WAITING = 4096


class Desk:
    def __init__(self):
        # None until something is loaded.
        self.machine = None

    def load(self, code):
        if len(code) > MOST_CODE:
            return [-1]
        self.machine = Machine(code)
        return [0]

    def give(self, given):
        if not all([in_range(number) for number in given]):
            return [-3]
        if self.machine is None:
            return [-8]
        if len(self.machine.waiting) + len(given) > MOST_WAITING:
            return [-1]
        self.machine.waiting.extend(given)
        return [0]

    def go(self, n, cap):
        if n > MOST_STEPS:
            return [-3]
        if self.machine is None:
            return [-8]
        self.machine.go(n, cap)
        return [0] + self.machine.out

    def state(self):
        if self.machine is None:
            return [-8]
        return self.machine.told()


# How many numbers the call at the place has, its own number among them.
def call_length(calls, at):
    if calls[at] in (LOAD, GIVE):
        return 2 + calls[at + 1]
    return 3 if calls[at] == GO else 1


def answer_of(desk, call):
    if call[0] == LOAD:
        return desk.load(call[2:])
    if call[0] == GIVE:
        return desk.give(call[2:])
    if call[0] == GO:
        return desk.go(call[1], call[2])
    return desk.state()


def answers(calls):
    desk = Desk()
    found = []
    at = 0
    while at < len(calls):
        length = call_length(calls, at)
        answer = answer_of(desk, calls[at:at + length])
        found.append(len(answer))
        found.extend(answer)
        at = at + length
    return found
