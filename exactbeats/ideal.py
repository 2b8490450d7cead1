"""The ideal switch: outputs that hold keys, and its runs over arrivals (3.1, 3.2)."""

from exactbeats.cells import cells, check_lines, copies, is_cell_number, is_copy
from exactbeats.errors import BadRanks, KeyThere, NoKey, NoOutput, NothingThere
from exactbeats.kinds import is_integer_from, is_number_below, is_tuple_of

GREATEST_RANK = 10 ** 18


def is_rank(thing):
    return is_integer_from(-GREATEST_RANK, GREATEST_RANK, thing)


def is_key(thing):
    return is_tuple_of(2, thing) and is_rank(thing[0]) and is_cell_number(thing[1])


def check_key(key):
    if not is_key(key):
        raise NoKey()


def how_many_less(keys, key):
    """How many of ascending keys are less than a key."""
    low = 0
    high = len(keys)
    while low < high:
        middle = (low + high) // 2
        if keys[middle] < key:
            low = middle + 1
        else:
            high = middle
    return low


class Ideal:
    """The ideal switch: each output holds keys, and lets the least one go."""

    def __init__(self, outputs):
        check_lines(outputs)
        self._rows = [[] for _ in range(outputs)]

    def _row(self, output):
        """The ascending list itself of the keys at an output."""
        if not is_number_below(len(self._rows), output):
            raise NoOutput()
        return self._rows[output]

    def push(self, output, key):
        row = self._row(output)
        check_key(key)
        if key[1] in [number for _, number in row]:
            raise KeyThere()
        row.insert(how_many_less(row, key), key)

    def due(self, output):
        """The least key that an output holds, or None."""
        row = self._row(output)
        return row[0] if row else None

    def let_go(self, output):
        """Takes the least key away from an output, and returns it."""
        row = self._row(output)
        if not row:
            raise NothingThere()
        return row.pop(0)

    def held(self, output):
        """The keys that an output holds, ascending."""
        return tuple(self._row(output))

    def ahead(self, output, key):
        """How many keys at an output are less than a key."""
        row = self._row(output)
        check_key(key)
        return how_many_less(row, key)

    def copy(self):
        """One that holds the same, and goes on apart."""
        other = Ideal(len(self._rows))
        other._rows = [list(row) for row in self._rows]
        return other


def check_ranks(wanted, ranks):
    """Raises BadRanks unless ranks gives a rank to just the copies wanted, a dict with ascending keys."""
    if not isinstance(ranks, dict):
        raise BadRanks(None)
    for copy in wanted:
        if not is_rank(ranks.get(copy)):
            raise BadRanks(copy)
    for key in ranks:
        if not is_copy(key) or key not in wanted:
            raise BadRanks(key)


def beat_of(ideal, lines):
    """Each output lets its least key go: the tuple of their cells, None where nothing is held."""
    left = []
    for output in range(lines):
        if ideal.due(output) is None:
            left.append(None)
        else:
            _, number = ideal.let_go(output)
            left.append(number)
    return tuple(left)


def holds_some(ideal, lines):
    return any([ideal.due(output) is not None for output in range(lines)])


def ideal_run(lines, most, arrivals, ranks):
    """What leaves the ideal switch over arrivals, beat by beat."""
    coming = cells(lines, most, arrivals)
    wanted = {copy: True for came in coming for cell in came for copy in copies(cell)}
    check_ranks(wanted, ranks)
    ideal = Ideal(lines)
    beats = []
    for came in coming:
        for cell in came:
            for number, output in copies(cell):
                ideal.push(output, (ranks[number, output], number))
        beats.append(beat_of(ideal, lines))
    while holds_some(ideal, lines):
        beats.append(beat_of(ideal, lines))
    return beats


def ideal_beats(lines, most, arrivals, ranks):
    """The beat in which each copy leaves the ideal switch."""
    run = ideal_run(lines, most, arrivals, ranks)
    return {(number, output): beat for beat, left in enumerate(run) for output, number in enumerate(left)
            if number is not None}
