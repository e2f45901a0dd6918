"""Programs read from a text: which of its lines is wrong, and what the lines tell."""

from drillrounds.texts import has_wrong_byte, is_number, is_passed_over, lines_of, words_of

# For each word the least and the greatest of each number that stands behind it.
NUMBER_RANGES = {
    "tool": ((1, 10000000),),
    "to": ((-2000000000, 2000000000), (-2000000000, 2000000000)),
    "go": ((-2000000000, 2000000000), (-2000000000, 2000000000)),
    "at": ((-2000000000, 2000000000), (-2000000000, 2000000000)),
    "by": ((-2000000000, 2000000000), (-2000000000, 2000000000)),
    "here": (),
    "run": ((1, 1000), (-2000000000, 2000000000), (-2000000000, 2000000000)),
    "rep": ((0, 1000),),
    "end": (),
}

MOST_LOOPS = 8


class Program:
    """The lines that are not passed over, as tuples of a word and its list of numbers.

    partners tells for each rep line where its end line is, and the other way
    round; loops are the rep lines that no end line has closed yet; wrong_line
    is 0 as long as no line is wrong.
    """

    def __init__(self):
        self.lines = []
        self.partners = {}
        self.loops = []
        self.wrong_line = 0


def is_in_range(word, limits):
    return is_number(word) and limits[0] <= int(word) <= limits[1]


def has_right_form(words):
    ranges = NUMBER_RANGES.get(words[0])
    if ranges is None or len(words) != 1 + len(ranges):
        return False
    return all([is_in_range(word, limits) for word, limits in zip(words[1:], ranges)])


def has_right_place(program, word):
    """Whether a line with that first word may stand behind the lines so far."""
    if not program.lines:
        return word == "tool"
    if word == "rep":
        return len(program.loops) < MOST_LOOPS
    if word == "end":
        return len(program.loops) > 0
    return True


def add_line(program, words):
    place = len(program.lines)
    program.lines.append((words[0], [int(word) for word in words[1:]]))
    if words[0] == "rep":
        program.loops.append(place)
    elif words[0] == "end":
        start = program.loops.pop()
        program.partners[start] = place
        program.partners[place] = start


def read_line(program, line):
    """Whether the line is right; if so, what it tells is put into the program."""
    if has_wrong_byte(line):
        return False
    words = words_of(line)
    if is_passed_over(words):
        return True
    if not (has_right_form(words) and has_right_place(program, words[0])):
        return False
    add_line(program, words)
    return True


def read_program(text):
    program = Program()
    lines = lines_of(text)
    for number, line in enumerate(lines, start=1):
        if not read_line(program, line):
            program.wrong_line = number
            return program
    # The first line must be a tool line, so without lines there was none.
    if program.loops or not program.lines:
        program.wrong_line = len(lines) + 1
    return program
