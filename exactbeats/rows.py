"""Copies that wait: standings, and the live rows at lines (4.1, 4.2)."""

from exactbeats.cells import MOST_LINES, check_lines
from exactbeats.errors import NoCopies, NoLine, NoPlace, NoStanding
from exactbeats.ideal import is_key
from exactbeats.kinds import is_number_below, is_tuple_of


def is_waiting(lines, thing):
    """Whether a thing has the form of a copy that waits: a pair of an output and a key."""
    return is_tuple_of(2, thing) and is_number_below(lines, thing[0]) and is_key(thing[1])


def are_unlike_copies(lines, rows):
    """Whether things are tuples of copies that wait, all together unlike."""
    there = {}
    for row in rows:
        if not isinstance(row, tuple):
            return False
        for copy in row:
            if not is_waiting(lines, copy) or copy in there:
                return False
            there[copy] = True
    return True


def is_standing(thing):
    """Whether a thing is a tuple of a row for each line."""
    return isinstance(thing, tuple) and 1 <= len(thing) <= MOST_LINES and are_unlike_copies(len(thing), thing)


def check_standing(standing):
    if not is_standing(standing):
        raise NoStanding()


def check_line(lines, line):
    if not is_number_below(lines, line):
        raise NoLine()


def check_place(row, place):
    if not is_number_below(len(row), place):
        raise NoPlace()


def waiting_for(standing, output):
    """The copies that wait for an output, of what is known to be a standing."""
    return sorted([(key, line, place) for line, row in enumerate(standing)
                   for place, (wanted, key) in enumerate(row) if wanted == output])


def copies_for(standing, output):
    """The copies that wait for an output: their keys, lines and places, ascending."""
    check_standing(standing)
    check_line(len(standing), output)
    return waiting_for(standing, output)


class Rows:
    """A row of copies that wait at each line."""

    def __init__(self, lines):
        check_lines(lines)
        self._rows = [() for _ in range(lines)]

    def put(self, line, copies):
        """Puts copies ahead of all of a line's row."""
        check_line(len(self._rows), line)
        there = {copy: True for row in self._rows for copy in row}
        if not are_unlike_copies(len(self._rows), [copies]) or any([copy in there for copy in copies]):
            raise NoCopies()
        self._rows[line] = copies + self._rows[line]

    def take(self, line, place):
        """Takes the copy at a place of a row away, and returns it."""
        check_line(len(self._rows), line)
        row = self._rows[line]
        check_place(row, place)
        self._rows[line] = row[:place] + row[place + 1:]
        return row[place]

    def standing(self):
        """The rows as they stand."""
        return tuple(self._rows)

    def copy(self):
        """Rows that hold the same, and go on apart."""
        other = Rows(len(self._rows))
        other._rows = list(self._rows)
        return other
