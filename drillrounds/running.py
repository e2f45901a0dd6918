"""Programs that are run: the machine, and what each line makes it do."""

from drillrounds.programs import read_program

# The number of the wrong line is taken from it.
WRONG_LINE = -100
TOO_MUCH = -6

MOST_LINES_DONE = 8192
MOST_DRILLED = 2048


class Machine:
    """The head, its tool and what it has drilled; refusal is 0 if nothing is refused.

    times_left tells for each loop that is gone through, the innermost last, how
    often it is still to be gone through.
    """

    def __init__(self):
        self.x = 0
        self.y = 0
        self.diameter = 0
        self.drilled = []
        self.times_left = []
        self.lines_done = 0
        self.refusal = 0


def do_tool(machine, numbers):
    machine.diameter = numbers[0]


def do_to(machine, numbers):
    machine.x = numbers[0]
    machine.y = numbers[1]


def do_go(machine, numbers):
    machine.x += numbers[0]
    machine.y += numbers[1]


def do_here(machine, numbers):
    machine.drilled.append((machine.x, machine.y, machine.diameter))


def do_at(machine, numbers):
    do_to(machine, numbers)
    do_here(machine, [])


def do_by(machine, numbers):
    do_go(machine, numbers)
    do_here(machine, [])


def do_run(machine, numbers):
    for turn in range(numbers[0]):
        do_by(machine, numbers[1:])


# Lines that open or close a loop are not among these: they tell which line is next.
DOINGS = {
    "tool": do_tool,
    "to": do_to,
    "go": do_go,
    "here": do_here,
    "at": do_at,
    "by": do_by,
    "run": do_run,
}


def line_behind_rep(machine, program, place, times):
    if times == 0:
        return program.partners[place] + 1
    machine.times_left.append(times)
    return place + 1


def line_behind_end(machine, program, place):
    left = machine.times_left.pop() - 1
    if left == 0:
        return place + 1
    machine.times_left.append(left)
    return program.partners[place] + 1


def do_line(machine, program, place):
    """Where the line stands that is to be done next."""
    word = program.lines[place][0]
    numbers = program.lines[place][1]
    machine.lines_done += 1
    if word == "rep":
        return line_behind_rep(machine, program, place, numbers[0])
    if word == "end":
        return line_behind_end(machine, program, place)
    doing = DOINGS[word]
    doing(machine, numbers)
    return place + 1


def is_too_much(machine):
    return machine.lines_done > MOST_LINES_DONE or len(machine.drilled) > MOST_DRILLED


def run_program(machine, program):
    place = 0
    # It is looked after each line, since a program may go on for very long.
    while place < len(program.lines) and not is_too_much(machine):
        place = do_line(machine, program, place)
    if is_too_much(machine):
        machine.refusal = TOO_MUCH


def run_text(text):
    """The machine after the program in the text, or with the refusal that is due."""
    machine = Machine()
    program = read_program(text)
    if program.wrong_line > 0:
        machine.refusal = WRONG_LINE - program.wrong_line
    else:
        run_program(machine, program)
    return machine
