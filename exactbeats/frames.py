"""Frames: rounds that carry what a table tells, shares of even tables, tables evened (11.1, 11.2)."""

from exactbeats.cells import MOST_LINES
from exactbeats.errors import NoNumber, NotEven, NoTable, TooFull
from exactbeats.kinds import all_unlike, is_integer_from, is_tuple_of
from exactbeats.matchings import are_apart_below, lines_by_outputs

GREATEST_ENTRY = 300
MOST_BEATS_OF_A_ROUND = 300


def is_table_row(many, thing):
    return is_tuple_of(many, thing) and all([is_integer_from(0, GREATEST_ENTRY, number) for number in thing])


def is_table(thing):
    if not isinstance(thing, tuple) or not 1 <= len(thing) <= MOST_LINES:
        return False
    return all([is_table_row(len(thing), row) for row in thing])


def check_table(table):
    if not is_table(table):
        raise NoTable()


def check_beats(beats):
    if not is_integer_from(0, MOST_BEATS_OF_A_ROUND, beats):
        raise NoNumber()


def sums_of(table):
    """The sums of the lines, and those of the outputs."""
    at_lines = [sum(row) for row in table]
    at_outputs = [sum([row[output] for row in table]) for output in range(len(table))]
    return (at_lines, at_outputs)


def check_room(table, beats):
    """Raises TooFull for the first line, or else output, whose numbers together are above the beats."""
    for side, sums in zip(("line", "output"), sums_of(table)):
        for end, total in enumerate(sums):
            if total > beats:
                raise TooFull(side, end)


def check_asked(table, beats):
    """Raises what is due for things that are no table, no number of beats, or do not fit."""
    check_table(table)
    check_beats(beats)
    check_room(table, beats)


def are_together(table, timed):
    """Whether pairs (times, matching) have each pair of a table just as often as it tells."""
    left = [list(row) for row in table]
    for times, matching in timed:
        for line, output in matching:
            left[line][output] -= times
    return not any([number != 0 for row in left for number in row])


def filled(table, beats):
    """A table with sums of just so many beats, none of whose numbers is less; no sum of the table is above them."""
    at_lines, at_outputs = sums_of(table)
    rows = []
    for row, total in zip(table, at_lines):
        new = []
        for output, number in enumerate(row):
            more = min(beats - total, beats - at_outputs[output])
            total += more
            at_outputs[output] += more
            new.append(number + more)
        rows.append(tuple(new))
    return tuple(rows)


def shares_of(table):
    """The shares of what is known to be an even table."""
    left = [list(row) for row in table]
    timed = []
    # Each matching is taken as often as it can be: so one more number is 0 each time, no matching comes again, and
    # no more come than the tables of all whole matchings have room for: (many - 1) ** 2 + 1.
    while sum(left[0]) > 0:
        pairs = [(line, output) for line, row in enumerate(left) for output, number in enumerate(row) if number > 0]
        line_of = lines_by_outputs(len(table), pairs)
        matching = sorted([(line, output) for output, line in line_of.items()])
        times = min([left[line][output] for line, output in matching])
        for line, output in matching:
            left[line][output] -= times
        timed.append((times, tuple(matching)))
    return timed


def those_wanted(left, matching):
    """The pairs of a matching that are still wanted, by what is left of a table: which they are less then."""
    wanted = []
    for line, output in matching:
        if left[line][output] > 0:
            left[line][output] -= 1
            wanted.append((line, output))
    return tuple(wanted)


def round_of(table, beats):
    """A round of so many beats that carries what a table tells."""
    check_asked(table, beats)
    left = [list(row) for row in table]
    matchings = []
    for times, matching in shares_of(filled(table, beats)):
        for _ in range(times):
            matchings.append(those_wanted(left, matching))
    return tuple(matchings)


def is_round(table, beats, thing):
    """Whether a thing is a round of so many beats that carries what a table tells."""
    check_table(table)
    check_beats(beats)
    if not is_tuple_of(beats, thing) or not all([are_apart_below(len(table), matching) for matching in thing]):
        return False
    return are_together(table, [(1, matching) for matching in thing])


def shares(table):
    """Whole matchings that stand together, each so many times, as often as an even table tells."""
    check_table(table)
    at_lines, at_outputs = sums_of(table)
    if any([total != at_lines[0] for total in at_lines + at_outputs]):
        raise NotEven()
    return tuple(shares_of(table))


def is_share(many, thing):
    """Whether a thing is a pair of a number from 1 on and a whole matching."""
    if not is_tuple_of(2, thing):
        return False
    times, matching = thing
    return is_integer_from(1, GREATEST_ENTRY, times) and is_tuple_of(many, matching) and are_apart_below(many, matching)


def are_shares(table, thing):
    """Whether a thing is shares of a table."""
    check_table(table)
    many = len(table)
    if not isinstance(thing, tuple) or len(thing) > (many - 1) ** 2 + 1:
        return False
    if not all([is_share(many, share) for share in thing]) or not all_unlike([matching for _, matching in thing]):
        return False
    return are_together(table, thing)


def evened(table, beats):
    """An even table whose sums are so many beats, and none of whose numbers is less than in this one."""
    check_asked(table, beats)
    return filled(table, beats)
