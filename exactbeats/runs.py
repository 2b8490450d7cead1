"""Runs whose ranks programs give: what comes and what the ideal switch lets go, what waits and what was carried over
(3.2, 12.1, 13.1, 13.2)."""

from exactbeats.cells import cells, check_lines, check_most
from exactbeats.ideal import Ideal, beat_of, holds_some
from exactbeats.kinds import is_integer, is_tuple_of
from exactbeats.ranks import Ranker, check_programs


def ranked(ranker, beat, cell, held):
    """The outs of a cell with the ranks of its copies, given output by output; held tells, for each output, how many
    keys the ideal one holds."""
    return tuple([(output, ranker.rank(beat, cell, output, held[output])) for output in cell.to_outs])


def run_by_programs(lines, most, programs, arrivals):
    """Beat by beat until all is sent: the list of the cells that come, each with its ranked outs, and the tuple of
    those that the ideal switch lets go."""
    check_lines(lines)
    check_most(most)
    check_programs(lines, lines, programs)
    coming = cells(lines, most, arrivals)
    ranker = Ranker(programs)
    ideal = Ideal(lines)
    beats = []
    for beat, came in enumerate(coming):
        told = []
        for cell in came:
            pairs = ranked(ranker, beat, cell, [len(ideal.held(output)) for output in range(lines)])
            for output, rank in pairs:
                ideal.push(output, (rank, cell.came_as))
            told.append((cell, pairs))
        beats.append((told, beat_of(ideal, lines)))
    while holds_some(ideal, lines):
        beats.append(([], beat_of(ideal, lines)))
    return beats


def is_phase(waiting, thing):
    """Whether a thing is an ascending tuple of triples (line, output, cell) of copies that wait, told for each line
    by their outputs and cells, in which no line and no output stands twice."""
    if not isinstance(thing, tuple):
        return False
    last = -1
    outputs = []
    for going in thing:
        if not is_tuple_of(3, going) or not all([is_integer(part) for part in going]):
            return False
        line, output, cell = going
        if not last < line < len(waiting) or output in outputs or (output, cell) not in waiting[line]:
            return False
        last = line
        outputs.append(output)
    return True


class Passage:
    """The copies that wait at lines, and those that were carried over."""

    def __init__(self, lines):
        # For each line, the keys of the copies that wait there, by their outputs and cells.
        self._waiting = [{} for _ in range(lines)]
        self._over = {}

    def come(self, came):
        """Cells come, each with its ranked outs."""
        for cell, pairs in came:
            for output, rank in pairs:
                self._waiting[cell.at_line][output, cell.came_as] = (rank, cell.came_as)

    def lots(self):
        """For each line, the ascending tuple of the copies that wait there."""
        return tuple([tuple(sorted([(output, key) for (output, _), key in waiting.items()]))
                      for waiting in self._waiting])

    def carries(self, thing):
        """Carries what a thing tells; returns whether it is a phase: of what is none nothing is carried."""
        if not is_phase(self._waiting, thing):
            return False
        for line, output, cell in thing:
            del self._waiting[line][output, cell]
            self._over[output, cell] = True
        return True

    def first_late(self, left):
        """The least output of those that let a cell go which was not carried over; None if there is none."""
        late = [output for output, cell in enumerate(left) if cell is not None and (output, cell) not in self._over]
        return min(late, default=None)
