"""The desk: one text with its rules, and the calls on it."""

from colourskept.brackets import lone_brackets, partner_places, place_of_bracket, text_brackets
from colourskept.colouring import FIRST_STACK, colour_line
from colourskept.lines import Line, line_count_holds, lines_hold, read_lines
from colourskept.reading import Row
from colourskept.rules import Mode, modes_hold, read_modes

CALL_RULES = 0
CALL_TEXT = 1
CALL_EDIT = 2
CALL_SHOW = 3
CALL_STATE = 4
CALL_STALE = 5
CALL_PAIR = 6
CALL_ALONE = 7
CALL_ANEW = 8
CALL_LINES = 9

WRONG = -1
WRONG_LINE_COUNT = -5
NO_BRACKET_THERE = -6
BRACKET_ALONE = -7


class Desk:
    """A text, its modes, and of each line what is kept; each call's answer is a list."""

    def __init__(self):
        self.modes = [Mode(0, 0, [])]
        self.lines = [Line([])]

    def put_rules(self, numbers):
        modes = read_modes(numbers)
        if not modes_hold(modes):
            return [WRONG]
        self.modes = modes
        self.take_away_kept()
        return [len(modes)]

    def put_text(self, numbers):
        lines = read_lines(numbers)
        if not line_count_holds(len(lines)) or not lines_hold(lines):
            return [WRONG]
        self.lines = lines
        return [len(lines)]

    def edit(self, begin, to, numbers):
        lines = read_lines(numbers)
        if not self.has_span(begin, to) or not lines_hold(lines):
            return [WRONG]
        edited = self.lines[:begin] + lines + self.lines[to:]
        if not line_count_holds(len(edited)):
            return [WRONG_LINE_COUNT]
        self.lines = edited
        return [len(edited)]

    def show(self, begin, to):
        if not self.has_span(begin, to):
            return [WRONG]
        shown = [self.keep_up(to)]
        for line in self.lines[begin:to]:
            shown.append(len(line.kept.tokens))
            for token in line.kept.tokens:
                shown.append(token.end)
                shown.append(token.colour)
        return shown

    def state(self, place):
        # The place behind the last line has modes too.
        if place > len(self.lines):
            return [WRONG]
        anew = self.keep_up(place)
        stack = self.stack_ahead_of(place)
        return [anew, len(stack)] + list(reversed(stack))

    def stale(self):
        count = 0
        stack = FIRST_STACK
        for line in self.lines:
            if line.stays(stack):
                stack = line.kept.behind
            else:
                # Coloured only to know the modes behind it: nothing may be kept by being asked.
                stack = colour_line(self.modes, stack, line.contents).behind
                count += 1
        return [count]

    def pair(self, place, column):
        if place >= len(self.lines) or column >= len(self.lines[place].contents):
            return [WRONG]
        brackets = self.keep_up_brackets()
        found = place_of_bracket(brackets, place, column)
        if found is None:
            return [NO_BRACKET_THERE]
        partners = partner_places(brackets)
        if found not in partners:
            return [BRACKET_ALONE]
        partner = brackets[partners[found]]
        return [partner.line, partner.begin, partner.end]

    def alone(self):
        lone = lone_brackets(self.keep_up_brackets())
        answer = [len(lone)]
        for bracket in lone:
            answer.extend([bracket.line, bracket.begin, bracket.number])
        return answer

    def anew(self):
        self.take_away_kept()
        return [self.keep_up(len(self.lines))]

    def tell_lines(self, begin, to):
        if not self.has_span(begin, to):
            return [WRONG]
        told = []
        for line in self.lines[begin:to]:
            told.append(len(line.contents))
            told.extend(line.contents)
        return told

    def has_span(self, begin, to):
        return begin <= to and to <= len(self.lines)

    def stack_ahead_of(self, place):
        """The modes in which the line at this place begins, where all ahead of it is kept up."""
        if place == 0:
            return FIRST_STACK
        return self.lines[place - 1].kept.behind

    def keep_up(self, count):
        """Keeps up to so many lines; gives back how many were coloured anew."""
        anew = 0
        for place in range(count):
            line = self.lines[place]
            stack = self.stack_ahead_of(place)
            if not line.stays(stack):
                line.kept = colour_line(self.modes, stack, line.contents)
                anew += 1
        return anew

    def keep_up_brackets(self):
        """Keeps up all lines; gives back the brackets of the whole text, in order."""
        self.keep_up(len(self.lines))
        return text_brackets([line.kept.tokens for line in self.lines])

    def take_away_kept(self):
        # New lines of the same bytes have nothing kept.
        self.lines = [Line(line.contents) for line in self.lines]


def answer_call(desk, row):
    """Reads one call from the row, and gives back its answer."""
    call = row.take()
    if call == CALL_RULES:
        return desk.put_rules(row.take_counted())
    if call == CALL_TEXT:
        return desk.put_text(row.take_counted())
    if call == CALL_EDIT:
        begin = row.take()
        to = row.take()
        return desk.edit(begin, to, row.take_counted())
    if call == CALL_SHOW:
        begin = row.take()
        to = row.take()
        return desk.show(begin, to)
    if call == CALL_STATE:
        return desk.state(row.take())
    if call == CALL_STALE:
        return desk.stale()
    if call == CALL_PAIR:
        line = row.take()
        column = row.take()
        return desk.pair(line, column)
    if call == CALL_ALONE:
        return desk.alone()
    if call == CALL_ANEW:
        return desk.anew()
    if call == CALL_LINES:
        begin = row.take()
        to = row.take()
        return desk.tell_lines(begin, to)
    raise ValueError(f"there is no call {call}")


def answers(calls):
    """The answers to all calls on a new text: of each how many numbers, then these."""
    desk = Desk()
    row = Row(calls)
    answered = []
    while not row.at_end():
        answer = answer_call(desk, row)
        answered.append(len(answer))
        answered.extend(answer)
    return answered
