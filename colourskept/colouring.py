"""One line coloured: its tokens, and the modes behind it.

Modes in a stack are a tuple of their numbers, the top one last.
"""

from colourskept.rules import DOES_DROP, DOES_EXCHANGE, DOES_PUT

FIRST_STACK = (0,)
MOST_STACKED = 5
NO_BRACKET = 0


class Token:
    """A piece of a line; end is how many of the line's bytes are ahead of its end."""

    def __init__(self, end, colour, bracket):
        self.end = end
        self.colour = colour
        self.bracket = bracket


class Coloured:
    """What is kept of a line: the modes in which it began, its tokens, the modes behind it."""

    def __init__(self, begun, tokens, behind):
        self.begun = begun
        self.tokens = tokens
        self.behind = behind


def in_ranges(ranges, byte):
    for pair in ranges:
        if pair[0] <= byte and byte <= pair[1]:
            return True
    return False


def item_takes(item, byte):
    if item.inverse == 1:
        return not in_ranges(item.ranges, byte)
    return in_ranges(item.ranges, byte)


def item_end(item, contents, place):
    """Where the bytes end that the item takes from place on: place itself, if it takes none."""
    end = place
    while end < len(contents) and item_takes(item, contents[end]):
        end += 1
        if item.many == 0:
            return end
    return end


def rule_end(rule, contents, place):
    """Where the rule's token would end: place itself, if the rule doesn't match there."""
    end = place
    for item in rule.parts:
        begin = end
        end = item_end(item, contents, begin)
        if end == begin:
            return place
    return end


def matching_rule(mode, contents, place):
    for rule in mode.rules:
        # A rule that matches takes one byte at least.
        if rule_end(rule, contents, place) > place:
            return rule
    return None


def stack_behind_rule(stack, rule):
    if rule.does == DOES_DROP and len(stack) > 1:
        return stack[:-1]
    if rule.does == DOES_PUT and len(stack) < MOST_STACKED:
        return stack + (rule.named,)
    if rule.does == DOES_EXCHANGE:
        return stack[:-1] + (rule.named,)
    return stack


def stack_behind_line(modes, stack):
    """What is left of the modes when those on top that end with the line are gone."""
    left = stack
    while len(left) > 1 and modes[left[-1]].ends == 1:
        left = left[:-1]
    return left


def colour_line(modes, begun, contents):
    stack = begun
    tokens = []
    place = 0
    while place < len(contents):
        top = modes[stack[-1]]
        rule = matching_rule(top, contents, place)
        if rule is None:
            place += 1
            tokens.append(Token(place, top.colour, NO_BRACKET))
        else:
            place = rule_end(rule, contents, place)
            tokens.append(Token(place, rule.colour, rule.bracket))
            stack = stack_behind_rule(stack, rule)
    return Coloured(begun, tokens, stack_behind_line(modes, stack))
