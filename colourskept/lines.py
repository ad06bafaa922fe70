"""Lines of a text: read from a list, and held against their bounds."""

from colourskept.reading import Row

MOST_LINES = 40
MOST_LENGTH = 60
MOST_BYTE = 255
LINE_FEED = 10


class Line:
    """A line's bytes, and what is kept of it: None, if nothing is."""

    def __init__(self, contents):
        self.contents = contents
        self.kept = None

    def stays(self, stack):
        """Whether something is kept that began in just these modes."""
        return self.kept is not None and self.kept.begun == stack


def read_lines(numbers):
    """New lines, of which nothing is kept."""
    row = Row(numbers)
    lines = []
    while not row.at_end():
        lines.append(Line(row.take_counted()))
    return lines


def byte_holds(byte):
    return byte != LINE_FEED and byte <= MOST_BYTE


def line_holds(line):
    return len(line.contents) <= MOST_LENGTH and all([byte_holds(byte) for byte in line.contents])


def lines_hold(lines):
    """Whether each line is within its bounds; how many lines there are is not asked here."""
    return all([line_holds(line) for line in lines])


def line_count_holds(count):
    return 1 <= count and count <= MOST_LINES
