"""The desk: one text with its rules, and the calls on it."""

from colourskept.colouring import FIRST_STACK, colour_line
from colourskept.lines import Line, line_count_holds, lines_hold, read_lines
from colourskept.reading import Row
from colourskept.rules import Mode, modes_hold, read_modes

CALL_RULES = 0
CALL_TEXT = 1
CALL_EDIT = 2
CALL_SHOW = 3
CALL_STATE = 4

WRONG = -1
WRONG_LINE_COUNT = -5


class Desk:
    """A text, its modes, and of each line what is kept; each call's answer is a list."""

    def __init__(self):
        self.modes = [Mode(0, 0, [])]
        self.lines = [Line([])]

    def put_rules(self, numbers):
        modes = read_modes(numbers)
        if not modes_hold(modes):
            return [WRONG]
        self.modes = modes
        # New lines of the same bytes have nothing kept.
        self.lines = [Line(line.contents) for line in self.lines]
        return [len(modes)]

    def put_text(self, numbers):
        lines = read_lines(numbers)
        if not line_count_holds(len(lines)) or not lines_hold(lines):
            return [WRONG]
        self.lines = lines
        return [len(lines)]

    def edit(self, begin, to, numbers):
        lines = read_lines(numbers)
        if not self.has_span(begin, to) or not lines_hold(lines):
            return [WRONG]
        edited = self.lines[:begin] + lines + self.lines[to:]
        if not line_count_holds(len(edited)):
            return [WRONG_LINE_COUNT]
        self.lines = edited
        return [len(edited)]

    def show(self, begin, to):
        if not self.has_span(begin, to):
            return [WRONG]
        shown = [self.keep_up(to)]
        for line in self.lines[begin:to]:
            shown.append(len(line.kept.tokens))
            for token in line.kept.tokens:
                shown.append(token.end)
                shown.append(token.colour)
        return shown

    def state(self, place):
        # The place behind the last line has modes too.
        if place > len(self.lines):
            return [WRONG]
        anew = self.keep_up(place)
        stack = self.stack_ahead_of(place)
        return [anew, len(stack)] + list(reversed(stack))

    def has_span(self, begin, to):
        return begin <= to and to <= len(self.lines)

    def stack_ahead_of(self, place):
        """The modes in which the line at this place begins, where all ahead of it is kept up."""
        if place == 0:
            return FIRST_STACK
        return self.lines[place - 1].kept.behind

    def keep_up(self, count):
        """Keeps up to so many lines; gives back how many were coloured anew."""
        anew = 0
        for place in range(count):
            line = self.lines[place]
            stack = self.stack_ahead_of(place)
            if line.kept is None or line.kept.begun != stack:
                line.kept = colour_line(self.modes, stack, line.contents)
                anew += 1
        return anew


def answer_call(desk, row):
    """Reads one call from the row, and gives back its answer."""
    call = row.take()
    if call == CALL_RULES:
        return desk.put_rules(row.take_counted())
    if call == CALL_TEXT:
        return desk.put_text(row.take_counted())
    if call == CALL_EDIT:
        begin = row.take()
        to = row.take()
        return desk.edit(begin, to, row.take_counted())
    if call == CALL_SHOW:
        begin = row.take()
        to = row.take()
        return desk.show(begin, to)
    if call == CALL_STATE:
        return desk.state(row.take())
    raise NotImplementedError(f"call {call} is not there yet")


def answers(calls):
    """The answers to all calls on a new text: of each how many numbers, then these."""
    desk = Desk()
    row = Row(calls)
    answered = []
    while not row.at_end():
        answer = answer_call(desk, row)
        answered.append(len(answer))
        answered.extend(answer)
    return answered
