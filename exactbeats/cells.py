"""Lines, arrivals, cells and their copies (1.1, 1.2)."""

from exactbeats.errors import BadArrivals, BadCell, NoLines, NoMost
from exactbeats.kinds import is_integer, is_integer_from, is_lot_below, is_number_below, is_tuple_of

MOST_LINES = 12
MOST_COPIES = 3
MOST_BEATS = 200
STREAMS = 100
KINDS = 8
GREATEST_CELL = 10 ** 9


def check_lines(lines):
    if not is_integer_from(1, MOST_LINES, lines):
        raise NoLines()


def check_most(most):
    if not is_integer_from(1, MOST_COPIES, most):
        raise NoMost()


def is_cell_number(thing):
    return is_integer_from(0, GREATEST_CELL, thing)


def are_outs(lines, most, thing):
    """Whether a thing is a lot of 1 to most lines."""
    return is_lot_below(lines, thing) and 1 <= len(thing) <= most


def is_copy(thing):
    """Whether a thing has the form of a copy; which copies there are is for its asker."""
    return is_tuple_of(2, thing) and is_integer(thing[0]) and is_integer(thing[1])


class Cell:
    """A cell: its number, the line at which it came, its stream, its kind, its outputs."""

    def __init__(self, number, line, stream, kind, outs):
        if not is_cell_number(number):
            raise BadCell("number")
        if not is_number_below(MOST_LINES, line):
            raise BadCell("line")
        if not is_number_below(STREAMS, stream):
            raise BadCell("stream")
        if not is_number_below(KINDS, kind):
            raise BadCell("kind")
        if not are_outs(MOST_LINES, MOST_COPIES, outs):
            raise BadCell("outs")
        self.came_as = number
        self.at_line = line
        self.of_stream = stream
        self.of_kind = kind
        self.to_outs = outs

    def __eq__(self, other):
        return (isinstance(other, Cell) and self.came_as == other.came_as and self.at_line == other.at_line
                and self.of_stream == other.of_stream and self.of_kind == other.of_kind
                and self.to_outs == other.to_outs)


def copies(cell):
    """The copies of a cell, by outputs."""
    return tuple([(cell.came_as, output) for output in cell.to_outs])


def is_arrival(lines, most, thing):
    if not is_tuple_of(3, thing):
        return False
    stream, kind, outs = thing
    return is_number_below(STREAMS, stream) and is_number_below(KINDS, kind) and are_outs(lines, most, outs)


def first_wrong_item(lines, most, coming):
    """The first line of a beat whose item is neither None nor an arrival; None if there is none."""
    for line, item in enumerate(coming):
        if item is not None and not is_arrival(lines, most, item):
            return line
    return None


def arrivals_fault(lines, most, thing):
    """The field of the BadArrivals that is due for a thing; None for arrivals."""
    if not isinstance(thing, tuple) or len(thing) > MOST_BEATS:
        return -1
    for beat, coming in enumerate(thing):
        if not is_tuple_of(lines, coming):
            return beat
    # Only now the items: a beat of a wrong form is named ahead of a wrong item, even of an earlier beat (0.3).
    for beat, coming in enumerate(thing):
        line = first_wrong_item(lines, most, coming)
        if line is not None:
            return (beat, line)
    return None


def is_arrivals(lines, most, thing):
    """Whether a thing is arrivals for so many lines and copies."""
    check_lines(lines)
    check_most(most)
    return arrivals_fault(lines, most, thing) is None


def cells(lines, most, arrivals):
    """The cells that come, a list for each beat."""
    check_lines(lines)
    check_most(most)
    fault = arrivals_fault(lines, most, arrivals)
    if fault is not None:
        raise BadArrivals(fault)
    beats = []
    number = 0
    for coming in arrivals:
        came = []
        for line, arrival in enumerate(coming):
            if arrival is not None:
                stream, kind, outs = arrival
                came.append(Cell(number, line, stream, kind, outs))
                number += 1
        beats.append(came)
    return beats
