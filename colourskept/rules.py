"""Modes, their rules and the items of these: read from a list, and held against their bounds."""

from colourskept.reading import Row

MOST_MODES = 6
MOST_COLOUR = 9
MOST_RULES = 8
MOST_BRACKET = 8
MOST_ITEMS = 6
MOST_RANGES = 4
MOST_BYTE = 255

DOES_DROP = 1
DOES_PUT = 2
DOES_EXCHANGE = 3


class Item:
    """What takes one byte, or many; each range is a pair of its first and its last byte."""

    def __init__(self, many, inverse, ranges):
        self.many = many
        self.inverse = inverse
        self.ranges = ranges


class Rule:
    """What makes a token; parts are its items, named is the mode that it puts on top."""

    def __init__(self, colour, does, named, bracket, parts):
        self.colour = colour
        self.does = does
        self.named = named
        self.bracket = bracket
        self.parts = parts


class Mode:
    """Rules in order, and the colour of a byte that none of them matches."""

    def __init__(self, ends, colour, rules):
        self.ends = ends
        self.colour = colour
        self.rules = rules


def read_range(row):
    low = row.take()
    high = row.take()
    return (low, high)


def read_item(row):
    many = row.take()
    inverse = row.take()
    count = row.take()
    return Item(many, inverse, [read_range(row) for number in range(count)])


def read_named(row, does):
    """The mode that follows what a rule does, if one follows."""
    if does == DOES_PUT or does == DOES_EXCHANGE:
        return row.take()
    # Mode 0 is always there, so a rule that names none is never refused for it.
    return 0


def read_rule(row):
    colour = row.take()
    does = row.take()
    named = read_named(row, does)
    bracket = row.take()
    count = row.take()
    return Rule(colour, does, named, bracket, [read_item(row) for number in range(count)])


def read_mode(row):
    ends = row.take()
    colour = row.take()
    count = row.take()
    return Mode(ends, colour, [read_rule(row) for number in range(count)])


def read_modes(numbers):
    row = Row(numbers)
    modes = []
    while not row.at_end():
        modes.append(read_mode(row))
    return modes


def range_holds(pair):
    return pair[0] <= pair[1] and pair[1] <= MOST_BYTE


def item_holds(item):
    return len(item.ranges) <= MOST_RANGES and all([range_holds(pair) for pair in item.ranges])


def rule_holds(rule, mode_count):
    if rule.colour > MOST_COLOUR or rule.bracket > MOST_BRACKET or rule.named >= mode_count:
        return False
    if len(rule.parts) == 0 or len(rule.parts) > MOST_ITEMS:
        return False
    return all([item_holds(item) for item in rule.parts])


def mode_holds(mode, mode_count):
    if mode.colour > MOST_COLOUR or len(mode.rules) > MOST_RULES:
        return False
    return all([rule_holds(rule, mode_count) for rule in mode.rules])


def modes_hold(modes):
    """Whether the modes are within all bounds; else they are to be refused."""
    if len(modes) == 0 or len(modes) > MOST_MODES:
        return False
    # A rule may name a mode that comes later, so all of them must have been read.
    return all([mode_holds(mode, len(modes)) for mode in modes])
