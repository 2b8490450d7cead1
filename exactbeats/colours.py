"""Colourings of webs (8.3)."""

from exactbeats.errors import NoNumber, NotColoured, NoPair, NoWeb, TooFew
from exactbeats.kinds import all_unlike, is_integer_from, is_number_below, is_pair_below, is_tuple_of
from exactbeats.matchings import MOST_TIES, check_web, most_ties

MOST_COLOURS = 300


def check_colours(colours):
    if not is_integer_from(1, MOST_COLOURS, colours):
        raise NoNumber()


def is_right(web, colours, thing):
    """Whether a thing is a colouring of what is known to be a web."""
    if not is_tuple_of(len(web), thing) or not all([is_number_below(colours, colour) for colour in thing]):
        return False
    at_lines = [(line, colour) for (line, _), colour in zip(web, thing)]
    at_outputs = [(output, colour) for (_, output), colour in zip(web, thing)]
    return all_unlike(at_lines) and all_unlike(at_outputs)


def is_colouring(many, web, colours, thing):
    """Whether a thing is a colouring of a web."""
    check_web(many, web)
    check_colours(colours)
    return is_right(web, colours, thing)


def colours_there(ties, colouring, side, end):
    """Which tie has each colour that is used at an end: at a line for side 0, at an output for side 1."""
    return {colour: number for number, colour in enumerate(colouring) if ties[number][side] == end}


def row_of(ties, colouring, side, end, first, second):
    """The ties of the row that begins at an end with a colour and goes on by the other one and it in turns."""
    row = []
    there = colours_there(ties, colouring, side, end)
    while first in there:
        row.append(there[first])
        side = 1 - side
        there = colours_there(ties, colouring, side, ties[row[-1]][side])
        first, second = second, first
    return row


def with_room(ties, colouring, palette, pair):
    """The colour that one more tie gets, of an ascending palette, and the colouring of the elder ones then.

    The palette has a colour that is free at the line of the pair, and one that is free at its output."""
    line, output = pair
    at_line = colours_there(ties, colouring, 0, line)
    at_output = colours_there(ties, colouring, 1, output)
    free = [colour for colour in palette if colour not in at_line and colour not in at_output]
    if free:
        return (free[0], list(colouring))
    a = min([colour for colour in palette if colour not in at_line])
    b = min([colour for colour in palette if colour not in at_output])
    row = row_of(ties, colouring, 1, output, a, b)
    other = row_of(ties, colouring, 0, line, b, a)
    colour = a
    if len(other) < len(row):
        row = other
        colour = b
    exchanged = {a: b, b: a}
    return (colour, [exchanged[elder] if number in row else elder for number, elder in enumerate(colouring)])


def all_coloured(ties, palette):
    """Colours for ties, in their order, of a palette of at least as many as their degree."""
    colouring = []
    for number, pair in enumerate(ties):
        colour, colouring = with_room(ties[:number], colouring, palette, pair)
        colouring.append(colour)
    return tuple(colouring)


def check_degree(many, web, colours):
    """Raises TooFew if the degree of a web, or of ties in any order, is above the colours."""
    most = most_ties(many, web)
    if most > colours:
        raise TooFew(most)


def coloured(many, web, colours):
    """A colouring of a web."""
    check_web(many, web)
    check_colours(colours)
    check_degree(many, web, colours)
    return all_coloured(web, list(range(colours)))


def with_tie(many, web, colours, colouring, pair):
    """The colouring of a web with one more tie, and the elder ties that changed their colour."""
    check_web(many, web)
    check_colours(colours)
    if not is_right(web, colours, colouring):
        raise NotColoured()
    if not is_pair_below(many, pair):
        raise NoPair()
    check_degree(many, web + (pair,), colours)
    if len(web) == MOST_TIES:
        raise NoWeb()
    colour, turned = with_room(web, colouring, list(range(colours)), pair)
    moved = tuple([number for number, elder in enumerate(colouring) if turned[number] != elder])
    place = len([other for other in web if other <= pair])
    return (tuple(turned[:place] + [colour] + turned[place:]), moved)
