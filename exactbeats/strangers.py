"""Schedulers of strangers, led over arrivals and judged, and two of this package (13.2)."""

from exactbeats.errors import NoNumber
from exactbeats.kinds import is_integer_from
from exactbeats.runs import Passage, run_by_programs
from exactbeats.stable import by_asks_of_lines, cells_that_go

MOST_PHASES = 8


def led(lines, most, programs, arrivals, phases, stranger):
    """How a stranger fares over arrivals, with so many phases a beat."""
    beats = run_by_programs(lines, most, programs, arrivals)
    if not is_integer_from(1, MOST_PHASES, phases):
        raise NoNumber()
    passage = Passage(lines)
    carried = []
    for beat, (came, left) in enumerate(beats):
        passage.come(came)
        told = []
        for phase in range(phases):
            going = stranger((beat, phase, passage.lots()))
            if not passage.carries(going):
                return ("wrong", beat, phase)
            told.append(going)
        late = passage.first_late(left)
        if late is not None:
            return ("late", beat, late)
        carried.append(told)
    return ("kept", carried, [left for _, left in beats])


def row_of(lot):
    """The copies of a lot as they stand in the switch's row: those of the newest cell ahead, by their outputs."""
    return tuple(sorted(lot, key=lambda copy: (-copy[1][1], copy[0])))


def asking(view):
    """The stranger that makes the stable matching by asks of lines, as the switch does."""
    standing = tuple([row_of(lot) for lot in view[2]])
    return cells_that_go(standing, by_asks_of_lines(standing))


def greedy(view):
    """The stranger that takes the least key that can still be matched, then the next."""
    asked = sorted([(key, line, output) for line, lot in enumerate(view[2]) for output, key in lot])
    lines = []
    outputs = []
    going = []
    for key, line, output in asked:
        if line not in lines and output not in outputs:
            lines.append(line)
            outputs.append(output)
            going.append((line, output, key[1]))
    return tuple(sorted(going))
