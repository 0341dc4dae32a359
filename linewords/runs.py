"""What a run of lines and a run of instructions have alike: how they stand, their calls and their bounds."""

# How a run stands, told of its next line or instruction.
ENDED = 0
OUT_OF_RANGE = 1
BY_ZERO = 2
TOO_MANY_CALLS = 3
IMPOSSIBLE = 4
FULL_STACK = 5
WAITING = 6
GOES_ON = 7

MOST_CALLS = 200
MOST_STEPS = 20000


# One that has not come back yet.
class Call:
    def __init__(self, back, own):
        self.back = back
        self.own = own


# The line is told only where something goes wrong.
def standing_and_line(standing, line):
    if OUT_OF_RANGE <= standing <= FULL_STACK:
        return [standing, line]
    return [standing, 0]
