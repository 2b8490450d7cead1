"""Buckets: how much lines may send to an output, and what bounds follow for what it holds and how long cells wait
(10.1 to 10.4)."""

from heapq import heappop, heappush

from exactbeats.cells import KINDS, MOST_LINES
from exactbeats.errors import BadBuckets, Boundless, NoCell, NoLine, NoNumber, NoStream
from exactbeats.kinds import is_integer_from, is_lot_below, is_number_below, is_tuple_of

GREATEST_BOTTOM = 20
GREATEST_BURST = 20
GREATEST_NUMBER = 10 ** 9
MOST_LOTS = 6000
# From burst * bottom beats on, 400 at most, a line of a top below bottom sends by its top alone: so behind that many
# beats what lines send together, less what leaves, only falls from one round of bottom beats to the next.
LONGEST = 420


def is_bucket(bottom, thing):
    """Whether a thing is a burst, a top and a kind."""
    if not is_tuple_of(3, thing):
        return False
    burst, top, kind = thing
    if not is_integer_from(1, GREATEST_BURST, burst) or not is_integer_from(0, bottom, top):
        return False
    return is_number_below(KINDS, kind)


class Buckets:
    """How much each line may send to an output."""

    def __init__(self, bottom, rows):
        if not is_integer_from(1, GREATEST_BOTTOM, bottom):
            raise BadBuckets("bottom")
        if not isinstance(rows, tuple) or not 1 <= len(rows) <= MOST_LINES:
            raise BadBuckets("rows")
        for line, row in enumerate(rows):
            if row is not None and not is_bucket(bottom, row):
                raise BadBuckets(line)
        self.bottom = bottom
        self.rows = rows

    def __eq__(self, other):
        return isinstance(other, Buckets) and self.bottom == other.bottom and self.rows == other.rows


def check_line(buckets, line):
    if not is_number_below(len(buckets.rows), line):
        raise NoLine()


def check_number(thing):
    if not is_integer_from(0, GREATEST_NUMBER, thing):
        raise NoNumber()


def check_kind(kind):
    if not is_number_below(KINDS, kind):
        raise NoNumber()


def most_of(bottom, row, beats):
    """The most cells of a line in so many beats."""
    if row is None:
        return 0
    burst, top, _ = row
    return min(beats, burst + top * beats // bottom)


def most_together(bottom, rows, beats):
    return sum([most_of(bottom, row, beats) for row in rows])


def most_sent(buckets, line, beats):
    """The most cells of a line in each stretch of so many beats."""
    check_line(buckets, line)
    check_number(beats)
    return most_of(buckets.bottom, buckets.rows[line], beats)


def check_stream(buckets, stream):
    if not isinstance(stream, tuple) or len(stream) > MOST_LOTS:
        raise NoStream()
    if not all([is_lot_below(len(buckets.rows), lot) for lot in stream]):
        raise NoStream()


def first_beginning(buckets, stream, line, end):
    """The greatest beginning of a stretch with this end in which a line sends too many; there is one."""
    beginning = end
    sent = 1
    while sent <= most_of(buckets.bottom, buckets.rows[line], end - beginning + 1):
        beginning -= 1
        sent += 1 if line in stream[beginning] else 0
    return beginning


class Gauge:
    """How full a line's bucket is: a stretch has too many cells just if, with each cell counted bottom times and each
    beat taking top away, more than bottom times burst comes together in it."""

    def __init__(self, bottom, row):
        self.bottom = bottom
        self.row = row
        self.level = 0
        # The least level ahead of a beat up to now.
        self.least = 0

    def overflows(self, sent):
        """Goes on by a beat, in which a cell is sent or none; returns whether a stretch that ends with it has too
        many cells."""
        if self.row is None:
            return sent
        burst, top, _ = self.row
        self.least = min(self.least, self.level)
        self.level += (self.bottom if sent else 0) - top
        return self.level - self.least > self.bottom * burst


def breach(buckets, stream):
    """The first stretch in which a line sends too many: the line, and the beats from and to; None if there is none."""
    check_stream(buckets, stream)
    gauges = [Gauge(buckets.bottom, row) for row in buckets.rows]
    for beat, lot in enumerate(stream):
        for line, gauge in enumerate(gauges):
            if gauge.overflows(line in lot):
                return (line, first_beginning(buckets, stream, line, beat), beat)
    return None


def let_one_go(waiting, waits, beat):
    """The cell that is due goes, if one waits: its wait is noted."""
    if waiting:
        _, came, line = heappop(waiting)
        waits.append((came, line, beat - came))


def played(buckets, stream):
    """How many cells the output holds behind each beat of a stream, and the wait of each cell."""
    check_stream(buckets, stream)
    if any([buckets.rows[line] is None for lot in stream for line in lot]):
        raise NoStream()
    waiting = []
    waits = []
    held = []
    for beat, lot in enumerate(stream):
        for line in lot:
            heappush(waiting, (buckets.rows[line][2], beat, line))
        let_one_go(waiting, waits, beat)
        held.append(len(waiting))
    beat = len(stream)
    while waiting:
        let_one_go(waiting, waits, beat)
        beat += 1
    return (tuple(held), sorted(waits))


def rows_of(buckets, kinds):
    """The rows of the lines whose kinds are among some."""
    return [row for row in buckets.rows if row is not None and row[2] in kinds]


def tops_of(rows):
    return sum([top for _, top, _ in rows])


def greatest_hold(buckets):
    """The most cells that are held behind a beat, None if there is no greatest number."""
    rows = rows_of(buckets, list(range(KINDS)))
    if tops_of(rows) > buckets.bottom:
        return None
    return max([most_together(buckets.bottom, rows, beats) - beats for beats in range(LONGEST)])


def sends(buckets, line, beat):
    """Whether a line that sends as soon as it may sends in a beat."""
    row = buckets.rows[line]
    return most_of(buckets.bottom, row, beat + 1) > most_of(buckets.bottom, row, beat)


def soonest(buckets, beats):
    """The stream of so many beats in which each line sends as soon as it may."""
    lines = list(range(len(buckets.rows)))
    return tuple([tuple([line for line in lines if sends(buckets, line, beat)]) for beat in range(beats)])


def worst_stream(buckets):
    """The shortest stream, of lines that send as soon as they may, behind which the most cells are held."""
    most = greatest_hold(buckets)
    if most is None:
        raise Boundless()
    # Up to the first time that the most are held something leaves in each beat.
    beats = 0
    while most_together(buckets.bottom, buckets.rows, beats) - beats < most:
        beats += 1
    return soonest(buckets, beats)


def is_boundless(buckets, kind):
    """Whether cells of a kind that has a line may wait as long as may be."""
    lesser = tops_of(rows_of(buckets, list(range(kind))))
    return lesser >= buckets.bottom or lesser + tops_of(rows_of(buckets, [kind])) > buckets.bottom


def longest_wait(buckets, kind):
    """The longest wait of a cell of a kind that has a line and a bound, and the beats up to its end."""
    own = rows_of(buckets, [kind])
    lesser = rows_of(buckets, list(range(kind)))
    longest = (0, 1)
    end = 1
    for beats in range(1, LONGEST):
        # The end for one beat more is no less: so it is looked for from the last one on.
        end = max(end, beats)
        ahead = most_together(buckets.bottom, own, beats)
        while end < ahead + most_together(buckets.bottom, lesser, end):
            end = ahead + most_together(buckets.bottom, lesser, end)
        if end - beats > longest[0]:
            longest = (end - beats, end)
    return longest


def greatest_wait(buckets, kind):
    """The longest wait of a cell of a kind, None if there is no longest one."""
    check_kind(kind)
    if not rows_of(buckets, [kind]):
        return 0
    if is_boundless(buckets, kind):
        return None
    return longest_wait(buckets, kind)[0]


def worst_stream_for(buckets, kind):
    """A stream in which a cell of a kind waits as long as it can."""
    check_kind(kind)
    if not rows_of(buckets, [kind]):
        raise NoCell()
    if is_boundless(buckets, kind):
        raise Boundless()
    # What comes behind the cell that waits, of its own kind and of greater ones, does not go ahead of it.
    _, end = longest_wait(buckets, kind)
    return soonest(buckets, end)


def with_row(buckets, line, row):
    """Other buckets, with this row for a line."""
    check_line(buckets, line)
    # The other rows are right: what is wrong with these buckets is wrong with this line.
    return Buckets(buckets.bottom, buckets.rows[:line] + (row,) + buckets.rows[line + 1:])


def holds_at_most(buckets, most):
    hold = greatest_hold(buckets)
    return hold is not None and hold <= most


def let_in(buckets, line, row, most):
    """Whether, with this row for a line, never more than so many cells are held."""
    other = with_row(buckets, line, row)
    check_number(most)
    return holds_at_most(other, most)


def greatest_in(buckets, line, rows, most):
    """The number of the last row by which a line is let in, None if there is none; rows ascend in what they let a
    line send."""
    # Any one of the rows tells whether they are right: only what ascends in them is not passed.
    with_row(buckets, line, rows[0])
    check_number(most)
    right = [number for number, row in enumerate(rows) if holds_at_most(with_row(buckets, line, row), most)]
    return max(right, default=None)


def greatest_burst(buckets, line, top, kind, most):
    """The greatest burst with which a line is let in, None if there is none."""
    rows = [(burst, top, kind) for burst in range(1, GREATEST_BURST + 1)]
    number = greatest_in(buckets, line, rows, most)
    return None if number is None else number + 1


def greatest_top(buckets, line, burst, kind, most):
    """The greatest top with which a line is let in, None if there is none."""
    rows = [(burst, top, kind) for top in range(buckets.bottom + 1)]
    return greatest_in(buckets, line, rows, most)
