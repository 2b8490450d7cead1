"""Webs, their pairings, covers and crowds (8.1, 8.2)."""

from exactbeats.cells import MOST_LINES
from exactbeats.errors import NoNumber, NoWeb
from exactbeats.kinds import all_unlike, is_integer_from, is_lot_below, is_pair_below, is_tuple_of

MOST_TIES = 300


def check_many(many):
    if not is_integer_from(1, MOST_LINES, many):
        raise NoNumber()


def has_web_form(many, thing):
    """Whether a thing is a web over what is known to be a number of lines."""
    if not isinstance(thing, tuple) or len(thing) > MOST_TIES:
        return False
    if not all([is_pair_below(many, pair) for pair in thing]):
        return False
    return list(thing) == sorted(thing)


def is_web(many, thing):
    """Whether a thing is a web over so many."""
    check_many(many)
    return has_web_form(many, thing)


def check_web(many, web):
    check_many(many)
    if not has_web_form(many, web):
        raise NoWeb()


def most_ties(many, web):
    """The degree of what is known to be a web, or to be one but for its order."""
    at_lines = [0 for _ in range(many)]
    at_outputs = [0 for _ in range(many)]
    for line, output in web:
        at_lines[line] += 1
        at_outputs[output] += 1
    return max(at_lines + at_outputs)


def degree(many, web):
    """The greatest number of ties of one line, or of one output."""
    check_web(many, web)
    return most_ties(many, web)


def unlike_pairs(web):
    return sorted(set(web))


def are_apart_below(many, thing):
    """Whether a thing is an ascending tuple of pairs below many, no two of one line or of one output."""
    if not isinstance(thing, tuple) or not all([is_pair_below(many, pair) for pair in thing]):
        return False
    # Unlike lines that ascend make unlike pairs that ascend.
    lines = [line for line, _ in thing]
    return lines == sorted(lines) and all_unlike(lines) and all_unlike([output for _, output in thing])


def is_pairing(many, web, thing):
    """Whether a thing is a pairing of a web."""
    check_web(many, web)
    return are_apart_below(many, thing) and all([pair in web for pair in thing])


def moves_in(outputs_of, line_of, line, seen):
    """Whether a line gets one of its outputs, others being moved for it; line_of, which tells it, is changed then."""
    for output in outputs_of[line]:
        if output not in seen:
            seen[output] = True
            if output not in line_of or moves_in(outputs_of, line_of, line_of[output], seen):
                line_of[output] = line
                return True
    return False


def outputs_by_lines(many, pairs):
    return [[output for line, output in pairs if line == each] for each in range(many)]


def lines_by_outputs(many, pairs):
    """A greatest pairing of pairs: the dict from its outputs to their lines."""
    outputs_of = outputs_by_lines(many, pairs)
    line_of = {}
    for line in range(many):
        moves_in(outputs_of, line_of, line, {})
    return line_of


def most_pairs(many, pairs):
    """How many pairs a greatest pairing of pairs has."""
    return len(lines_by_outputs(many, pairs))


def apart_from(pairs, pair):
    """Those pairs that have neither the line nor the output of one."""
    return [other for other in pairs if other[0] != pair[0] and other[1] != pair[1]]


def greatest(many, web):
    """The first of the pairings of the most pairs."""
    check_web(many, web)
    rest = unlike_pairs(web)
    lacking = most_pairs(many, rest)
    chosen = []
    for pair in unlike_pairs(web):
        if pair in rest:
            others = apart_from(rest, pair)
            if most_pairs(many, others) == lacking - 1:
                chosen.append(pair)
                rest = others
                lacking -= 1
    return tuple(chosen)


def reached(many, pairs, line_of, starts):
    """The lines and outputs that rows of ties lead to, from lines that a greatest pairing leaves out: to outputs by
    any tie, back to lines by those of the pairing."""
    outputs_of = outputs_by_lines(many, pairs)
    lines = []
    outputs = []
    waiting = list(starts)
    while waiting:
        line = waiting.pop()
        lines.append(line)
        for output in outputs_of[line]:
            if output not in outputs:
                outputs.append(output)
                # There is such a line: a row to an output without one would make a greater pairing.
                waiting.append(line_of[output])
    return (lines, outputs)


def lines_left(many, line_of):
    """The lines that a pairing leaves out."""
    used = list(line_of.values())
    return [line for line in range(many) if line not in used]


def cover(many, web):
    """A cover with as many members as a greatest pairing has pairs."""
    check_web(many, web)
    line_of = lines_by_outputs(many, web)
    lines, outputs = reached(many, web, line_of, lines_left(many, line_of))
    return (tuple([line for line in range(many) if line not in lines]), tuple(sorted(outputs)))


def is_cover(many, web, thing):
    """Whether a thing is a cover of a web."""
    check_web(many, web)
    if not is_tuple_of(2, thing) or not is_lot_below(many, thing[0]) or not is_lot_below(many, thing[1]):
        return False
    return all([line in thing[0] or output in thing[1] for line, output in web])


def crowd(many, web):
    """A lot of lines whose ties lead to fewer outputs than they are, or None."""
    check_web(many, web)
    line_of = lines_by_outputs(many, web)
    left = lines_left(many, line_of)
    if not left:
        return None
    lines, _ = reached(many, web, line_of, left[:1])
    return tuple(sorted(lines))


def is_crowd(many, web, thing):
    """Whether a thing is a lot of lines, not empty, whose ties lead to fewer outputs than they are."""
    check_web(many, web)
    # An empty lot is none: its ties lead to no fewer outputs than it has lines.
    return is_lot_below(many, thing) and len({output for line, output in web if line in thing}) < len(thing)


def needless(many, web):
    """The pairs that stand in no greatest pairing."""
    check_web(many, web)
    pairs = unlike_pairs(web)
    most = most_pairs(many, pairs)
    return tuple([pair for pair in pairs if most_pairs(many, apart_from(pairs, pair)) < most - 1])


def needed(many, web):
    """The pairs that stand in each greatest pairing."""
    check_web(many, web)
    pairs = unlike_pairs(web)
    most = most_pairs(many, pairs)
    return tuple([pair for pair in pairs if most_pairs(many, [other for other in pairs if other != pair]) < most])
