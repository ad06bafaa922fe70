"""Calls built from readable pieces, their answers taken apart, and a plain model to hold them against."""

import re

from colourskept.desk import answers


def item(*ranges, many=0, inverse=0):
    numbers = [many, inverse, len(ranges)]
    for low, high in ranges:
        numbers += [low, high]
    return numbers


def one(signs):
    """An item that takes one of these signs (at most four)."""
    return item(*[(ord(sign), ord(sign)) for sign in signs])


def spelled(word):
    """Items that take just this word."""
    return [one(sign) for sign in word]


def rule(*items, colour=1, does=(0,), bracket=0):
    return [colour, *does, bracket, len(items)] + sum(items, [])


def mode(*rules_of_it, ends=0, colour=0):
    return [ends, colour, len(rules_of_it)] + sum(rules_of_it, [])


def rules(*modes):
    numbers = sum(modes, [])
    return [0, len(numbers)] + numbers


def lines_row(told):
    numbers = []
    for line in told:
        numbers += [len(line)] + list(line)
    return [len(numbers)] + numbers


def text(*told):
    return [1] + lines_row(told)


def edit(begin, to, *told):
    return [2, begin, to] + lines_row(told)


def show(begin, to):
    return [3, begin, to]


def state(line):
    return [4, line]


def stale():
    return [5]


def pair(line, column):
    return [6, line, column]


def alone():
    return [7]


def anew():
    return [8]


def lines(begin, to):
    return [9, begin, to]


def split(answered):
    """The one list of answers, as one list for each call."""
    parts = []
    place = 0
    while place < len(answered):
        count = answered[place]
        parts.append(answered[place + 1:place + 1 + count])
        if len(parts[-1]) != count:
            raise ValueError("the answers end in the middle of one")
        place += 1 + count
    return parts


def run(*calls):
    return split(answers(sum(calls, [])))


def last(*calls):
    return run(*calls)[-1]


def coloured(modes_call, line):
    """The tokens of a text of one line, as pairs of end and colour."""
    shown = last(modes_call, text(line), show(0, 1))
    numbers = shown[2:]
    pairs = list(zip(numbers[0::2], numbers[1::2]))
    if shown[:2] != [1, len(pairs)]:
        raise ValueError("one line anew and its tokens were to be shown")
    return pairs


def modes_behind(modes_call, *told):
    """The modes behind these lines, the top one first."""
    answered = last(modes_call, text(*told), state(len(told)))
    if answered[1] != len(answered) - 2:
        raise ValueError("how many modes there are was to be told ahead of them")
    return answered[2:]


LETTERS = (97, 122)
# Mode 0: words, brackets, strings (mode 1, ended by the line), comments (mode 2, not ended by it).
SMALL_LANGUAGE = rules(
    mode(
        rule(one('"'), colour=2, does=(2, 1)),
        rule(*spelled("/*"), colour=4, does=(2, 2)),
        rule(item(LETTERS, many=1), colour=1),
        rule(one("("), colour=5, bracket=1),
        rule(one(")"), colour=5, bracket=2),
    ),
    mode(rule(one('"'), colour=2, does=(1,)), ends=1, colour=3),
    mode(rule(*spelled("*/"), colour=4, does=(1,)), colour=6),
)
# Brackets of four kinds, two of them of several bytes; none in strings (mode 1), few in comments (mode 2).
BRACKET_LANGUAGE = rules(
    mode(
        rule(one("("), bracket=1),
        rule(one(")"), bracket=2),
        rule(one("["), bracket=3),
        rule(one("]"), bracket=4),
        rule(*spelled("begin"), bracket=5),
        rule(*spelled("end"), bracket=6),
        rule(one('"'), does=(2, 1)),
        rule(*spelled("/*"), does=(2, 2), bracket=7),
    ),
    mode(rule(one('"'), does=(1,)), ends=1),
    mode(rule(*spelled("*/"), does=(1,), bracket=8), rule(one("("), bracket=1)),
)


def assert_refused(case, number, refused, *before):
    """The call is refused with this number, and every later answer is as if it had not been made."""
    probes = [lines(0, 1), lines(0, 3), lines(0, 4), stale(),
              state(0), state(1), show(1, 2), state(2), show(0, 3), state(3), show(0, 4), state(4),
              edit(1, 2, b"ab /* c"), stale(), show(0, 3), edit(0, 0, b"/*"), show(0, 4), alone(),
              text(b'q "r" (s)'), show(0, 1), alone()]
    answered = run(*before, refused, *probes)
    case.assertEqual(answered[len(before)], [number])
    unrefused = run(*before, *probes)
    case.assertEqual(answered[:len(before)] + answered[len(before) + 1:], unrefused)


# Three lines, two of them kept, the second one within a comment.
PARTLY_KEPT = (SMALL_LANGUAGE, text(b"ab /* c", b"d */ (e)", b'f "g'), show(0, 2))


class Model:
    """The same calls, with all coloured from the beginning each time by Python's own patterns.

    Modes are (ends, colour, rules), a rule is (colour, does, bracket, items), an item (many, inverse, ranges).
    """

    def __init__(self):
        self.modes = [(0, 0, [])]
        self.patterns = [[]]
        self.text_lines = [{"bytes": b"", "began": None}]

    def rules(self, modes):
        self.modes = modes
        self.patterns = [[re.compile(rule_pattern(made[3]), re.DOTALL) for made in rules_of_it]
                         for ends, colour, rules_of_it in modes]
        self.forget()
        return [len(modes)]

    def text(self, told):
        if not 1 <= len(told) <= 40:
            return [-1]
        self.text_lines = [{"bytes": line, "began": None} for line in told]
        return [len(told)]

    def edit(self, begin, to, told):
        if not begin <= to <= len(self.text_lines):
            return [-1]
        edited = list(self.text_lines)
        edited[begin:to] = [{"bytes": line, "began": None} for line in told]
        if not 1 <= len(edited) <= 40:
            return [-5]
        self.text_lines = edited
        return [len(edited)]

    def show(self, begin, to):
        if not begin <= to <= len(self.text_lines):
            return [-1]
        tokens, begins = self.from_the_beginning()
        shown = [self.keep_up(begins, to)]
        for line in tokens[begin:to]:
            shown.append(len(line))
            for start, end, colour, bracket in line:
                shown.extend((end, colour))
        return shown

    def state(self, line):
        if line > len(self.text_lines):
            return [-1]
        begins = self.from_the_beginning()[1]
        stack = begins[line]
        return [self.keep_up(begins, line), len(stack)] + stack[::-1]

    def stale(self):
        begins = self.from_the_beginning()[1]
        return [sum(line["began"] != began for line, began in zip(self.text_lines, begins))]

    def pair(self, line, column):
        if line >= len(self.text_lines) or column >= len(self.text_lines[line]["bytes"]):
            return [-1]
        pairs, lone = self.brackets()
        for one_of_it, other in pairs + [(other, one_of_it) for one_of_it, other in pairs]:
            if one_of_it[0] == line and column in range(one_of_it[1], one_of_it[2]):
                return list(other[:3])
        return [-7] if any(at == line and column in range(start, end) for at, start, end, number in lone) else [-6]

    def alone(self):
        lone = self.brackets()[1]
        return [len(lone)] + [number for bracket in sorted(lone) for number in (bracket[0], bracket[1], bracket[3])]

    def anew(self):
        self.forget()
        return [self.keep_up(self.from_the_beginning()[1], len(self.text_lines))]

    def lines(self, begin, to):
        if not begin <= to <= len(self.text_lines):
            return [-1]
        return [number for line in self.text_lines[begin:to] for number in (len(line["bytes"]), *line["bytes"])]

    def forget(self):
        for line in self.text_lines:
            line["began"] = None

    def keep_up(self, begins, count):
        found = 0
        for line, began in list(zip(self.text_lines, begins))[:count]:
            if line["began"] != began:
                line["began"] = began
                found += 1
        return found

    def brackets(self):
        """The pairs, and those that are alone, each (line, start, end, number); all lines are kept up then.

        Again and again the first one that closes is taken out, with the one left of it if that is of its kind.
        """
        tokens, begins = self.from_the_beginning()
        self.keep_up(begins, len(self.text_lines))
        left = [(at, start, end, bracket) for at, line in enumerate(tokens) for start, end, colour, bracket in line
                if bracket]
        pairs, lone = [], []
        while True:
            closing = next((at for at, bracket in enumerate(left) if bracket[3] % 2 == 0), None)
            if closing is None:
                return pairs, lone + left
            if closing > 0 and left[closing - 1][3] == left[closing][3] - 1:
                pairs.append((left[closing - 1], left[closing]))
                left[closing - 1:closing + 1] = []
            else:
                lone.append(left.pop(closing))

    def from_the_beginning(self):
        stack = [0]
        tokens = []
        begins = [[0]]
        for line in self.text_lines:
            tokens.append(self.colour(line["bytes"], stack))
            while len(stack) > 1 and self.modes[stack[-1]][0]:
                stack.pop()
            begins.append(list(stack))
        return tokens, begins

    def colour(self, signs, stack):
        """The line's tokens, each (start, end, colour, bracket); the stack is changed to what is behind them."""
        tokens = []
        place = 0
        while place < len(signs):
            ends, colour, rules_of_it = self.modes[stack[-1]]
            end, does, bracket = place + 1, (0,), 0
            for made, pattern in zip(rules_of_it, self.patterns[stack[-1]]):
                found = pattern.match(signs, place)
                if found:
                    end, colour, does, bracket = found.end(), made[0], made[1], made[2]
                    break
            tokens.append((place, end, colour, bracket))
            place = end
            if does[0] == 1 and len(stack) > 1:
                stack.pop()
            elif does[0] == 2 and len(stack) < 5:
                stack.append(does[1])
            elif does[0] == 3:
                stack[-1] = does[1]
        return tokens


def rule_pattern(items):
    pattern = b""
    for many, inverse, ranges in items:
        inside = b"".join(b"\\x%02x-\\x%02x" % pair for pair in ranges)
        # Without ranges: what never matches, or any byte.
        outside = b"[^%s]" % inside if inside else b"."
        within = b"[%s]" % inside if inside else b"[^\\x00-\\xff]"
        pattern += outside if inverse else within
        # A possessive repeat gives nothing back, as an item does.
        pattern += b"++" if many else b""
    return pattern
