"""A text's brackets: where they are, and which one pairs with which."""

from colourskept.colouring import NO_BRACKET


class Bracket:
    """A token with a bracket: its line, the columns at which it begins and behind its end, its bracket number."""

    def __init__(self, line, begin, end, number):
        self.line = line
        self.begin = begin
        self.end = end
        self.number = number


def line_brackets(line, tokens):
    found = []
    begin = 0
    for token in tokens:
        if token.bracket != NO_BRACKET:
            found.append(Bracket(line, begin, token.end, token.bracket))
        begin = token.end
    return found


def text_brackets(tokens_of_lines):
    """The brackets of all lines, in order."""
    found = []
    for line in range(len(tokens_of_lines)):
        found.extend(line_brackets(line, tokens_of_lines[line]))
    return found


def place_of_bracket(brackets, line, column):
    """Which of the brackets has the byte at this column: None, if none of them has it."""
    for place in range(len(brackets)):
        bracket = brackets[place]
        if bracket.line == line and bracket.begin <= column and column < bracket.end:
            return place
    return None


def opens(bracket):
    return bracket.number % 2 == 1


def closes(bracket, opening):
    """Whether the bracket closes one of the kind that the other one opens."""
    return bracket.number == opening.number + 1


def partner_places(brackets):
    """Of each bracket that isn't alone, by its place in the list: its partner's place."""
    partners = {}
    waiting = []
    for place in range(len(brackets)):
        if opens(brackets[place]):
            waiting.append(place)
        elif len(waiting) > 0 and closes(brackets[place], brackets[waiting[-1]]):
            partner = waiting.pop()
            partners[partner] = place
            partners[place] = partner
    return partners


def lone_brackets(brackets):
    partners = partner_places(brackets)
    return [brackets[place] for place in range(len(brackets)) if place not in partners]
