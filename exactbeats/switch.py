"""The switch: rows, phases, stores, and the ideal switch beside it (6.1, 6.2)."""

from exactbeats.cells import check_lines, check_most
from exactbeats.errors import CameAlready, Late, NoCopies
from exactbeats.ideal import Ideal, is_rank
from exactbeats.kinds import is_number_below, is_tuple_of
from exactbeats.rows import Rows, check_line, check_place
from exactbeats.stable import by_asks_of_lines, cells_that_go, check_matching, keys_that_go


def are_coming(lines, most, thing):
    """Whether a thing is what may come to a line: outputs, ascending, with ranks."""
    if not isinstance(thing, tuple) or not 1 <= len(thing) <= most:
        return False
    last = -1
    for pair in thing:
        if not is_tuple_of(2, pair) or not is_number_below(lines, pair[0]) or not is_rank(pair[1]):
            return False
        if pair[0] <= last:
            return False
        last = pair[0]
    return True


class Switch:
    """The switch itself, and the ideal one beside it."""

    def __init__(self, lines, most):
        check_lines(lines)
        check_most(most)
        self._lines = lines
        self._most = most
        self._rows = Rows(lines)
        self._ideal = Ideal(lines)
        # The ideal output holds whatever lies in the store: so a key that is due is the least one there, or lacks.
        self._stores = Ideal(lines)
        self._cells = 0
        self._came = []
        self._beats = 0
        self._phases = 0

    def come(self, line, copies):
        """A cell comes to a line: returns its number."""
        check_line(self._lines, line)
        if not are_coming(self._lines, self._most, copies):
            raise NoCopies()
        if line in self._came:
            raise CameAlready()
        number = self._cells
        waiting = tuple([(output, (rank, number)) for output, rank in copies])
        self._rows.put(line, waiting)
        for output, key in waiting:
            self._ideal.push(output, key)
        self._cells += 1
        self._came.append(line)
        return number

    def _carry(self, matching):
        for line, output, place in matching:
            _, key = self._rows.take(line, place)
            self._stores.push(output, key)
        self._phases += 1

    def phase(self):
        """The stable matching is made, and returned."""
        matching = by_asks_of_lines(self._rows.standing())
        self._carry(matching)
        return matching

    def phase_by(self, matching):
        """Another matching is made."""
        check_matching(self._rows.standing(), matching)
        self._carry(matching)

    def _check_due(self):
        """Raises Late for the least output in whose store the copy that is due does not lie."""
        for output in range(self._lines):
            due = self._ideal.due(output)
            if due is not None and due != self._stores.due(output):
                raise Late(output, due[1])

    def send(self):
        """The beat ends: the keys that leave, output by output."""
        self._check_due()
        left = []
        for output in range(self._lines):
            if self._ideal.due(output) is None:
                left.append(None)
            else:
                self._ideal.let_go(output)
                left.append(self._stores.let_go(output))
        self._came = []
        self._beats += 1
        self._phases = 0
        return tuple(left)

    def beat(self, coming):
        """A whole beat: what comes, most + 1 phases, and what leaves."""
        if not is_tuple_of(self._lines, coming):
            raise NoCopies()
        for copies in coming:
            if copies is not None and not are_coming(self._lines, self._most, copies):
                raise NoCopies()
        if self._came or self._phases > 0:
            raise CameAlready()
        # Late comes up at the end only, and must leave nothing done: so another one goes ahead.
        other = self.copy()
        for line, copies in enumerate(coming):
            if copies is not None:
                other.come(line, copies)
        for _ in range(self._most + 1):
            other.phase()
        left = other.send()
        self._become(other)
        return left

    def _become(self, other):
        """Takes the parts of another one, which is not led on."""
        self._rows = other._rows
        self._ideal = other._ideal
        self._stores = other._stores
        self._cells = other._cells
        self._came = other._came
        self._beats = other._beats
        self._phases = other._phases

    def standing(self):
        """The rows as they stand."""
        return self._rows.standing()

    def stores(self):
        """The keys in each output's store."""
        return tuple([self._stores.held(output) for output in range(self._lines)])

    def ideal_rows(self):
        """The keys that each ideal output holds."""
        return tuple([self._ideal.held(output) for output in range(self._lines)])

    def beats(self):
        """How many beats ended."""
        return self._beats

    def phases(self):
        """How many phases were made in this beat."""
        return self._phases

    def slack(self, line, place):
        """The cushion less the thread of a copy that waits."""
        check_line(self._lines, line)
        row = self._rows.standing()[line]
        check_place(row, place)
        output, key = row[place]
        return self._stores.ahead(output, key) - place

    def slacks(self):
        """The slacks along each line's row."""
        return tuple([tuple([self._stores.ahead(output, key) - place for place, (output, key) in enumerate(row)])
                      for row in self._rows.standing()])

    def copy(self):
        """One that holds the same, and goes on apart."""
        other = Switch(self._lines, self._most)
        other._rows = self._rows.copy()
        other._ideal = self._ideal.copy()
        other._stores = self._stores.copy()
        other._cells = self._cells
        other._came = list(self._came)
        other._beats = self._beats
        other._phases = self._phases
        return other


def carried_by(switch):
    """Makes a phase: what it carries, as triples (line, output, cell)."""
    standing = switch.standing()
    return cells_that_go(standing, switch.phase())


def cells_of(keys):
    """The numbers of the cells whose keys leave, output by output."""
    return tuple([None if key is None else key[1] for key in keys])


def lifts(switch, matching):
    """By how much the slack of each copy grows by a matching, None for a copy that goes, line by line."""
    standing = switch.standing()
    check_matching(standing, matching)
    place_at = {line: place for line, _, place in matching}
    going = keys_that_go(standing, matching)
    told = []
    for line, row in enumerate(standing):
        end = place_at.get(line, len(row))
        lifted = []
        for place, (output, key) in enumerate(row):
            cushion = 1 if output in going and going[output] < key else 0
            lifted.append(None if place == end else cushion + (1 if end < place else 0))
        told.append(tuple(lifted))
    return tuple(told)
