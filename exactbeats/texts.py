"""Arrivals as texts, there and back (15.1)."""

from exactbeats.cells import (MOST_BEATS, MOST_COPIES, MOST_LINES, arrivals_fault, check_lines, check_most,
                              first_wrong_item)
from exactbeats.errors import BadText, NoArrivals
from exactbeats.kinds import is_tuple_of
from exactbeats.numerals import number_in


def are_texted(thing):
    """Whether a thing is arrivals of 1 to 12 lines with up to 3 copies."""
    if not isinstance(thing, tuple):
        return False
    if not thing:
        return True
    # The first beat tells how many lines there are.
    if not isinstance(thing[0], tuple) or not 1 <= len(thing[0]) <= MOST_LINES:
        return False
    return arrivals_fault(len(thing[0]), MOST_COPIES, thing) is None


def item_text(item):
    if item is None:
        return "-"
    stream, kind, outs = item
    told = ",".join([str(output) for output in outs])
    return f"{stream}.{kind}>{told}"


def coming_text(coming):
    """The arrivals of a beat as a line, without its line feed."""
    return " ".join([item_text(item) for item in coming])


def arrivals_text(arrivals):
    """Arrivals as a text."""
    if not are_texted(arrivals):
        raise NoArrivals()
    return "".join([f"{coming_text(coming)}\n" for coming in arrivals])


def item_in(word):
    """What a word tells for a line: None, or a triple, which holds None where an arrival has a number that the word
    does not tell."""
    if word == "-":
        return None
    stream, _, rest = word.partition(".")
    kind, _, outs = rest.partition(">")
    return (number_in(stream), number_in(kind), tuple([number_in(output) for output in outs.split(",")]))


def coming_in(lines, most, line):
    """The arrivals of a beat that a line tells, None if it tells none."""
    coming = tuple([item_in(word) for word in line.split(" ")])
    if not is_tuple_of(lines, coming) or first_wrong_item(lines, most, coming) is not None:
        return None
    return coming


def read_arrivals(lines, most, text):
    """The arrivals that a text tells."""
    check_lines(lines)
    check_most(most)
    if not isinstance(text, str):
        raise BadText(0)
    told = text.split("\n")
    rest = told.pop()
    arrivals = []
    for number, line in enumerate(told, start=1):
        coming = coming_in(lines, most, line)
        if coming is None or number > MOST_BEATS:
            raise BadText(number)
        arrivals.append(coming)
    if rest != "":
        raise BadText(len(told) + 1)
    return tuple(arrivals)
