"""Packets cut into cells, and put together again at outputs (14.1, 14.2)."""

from exactbeats.accounts import account_of
from exactbeats.cells import (KINDS, MOST_BEATS, MOST_COPIES, MOST_LINES, STREAMS, are_outs, check_lines,
                              check_most)
from exactbeats.errors import BadLoad, BadRows, Mixed, NoNumber, NoOutput, NoPacket, Twice
from exactbeats.kinds import is_integer_from, is_number_below, is_tuple_of

MOST_WORDS = 40
WORDS_OF_A_CELL = 4
MOST_PARTS = 10
GREATEST_PACKET = 10 ** 9
WORD_BOUND = 256
CHECK_BOUND = 251
LAST_BEGINNING = 100


def are_words(most, thing):
    """Whether a thing is a tuple of 1 to most words."""
    if not isinstance(thing, tuple) or not 1 <= len(thing) <= most:
        return False
    return all([is_number_below(WORD_BOUND, word) for word in thing])


def is_packet(lines, most, thing):
    """Whether a thing is a packet for so many lines and copies."""
    if not is_tuple_of(4, thing):
        return False
    stream, kind, outs, words = thing
    if not is_number_below(STREAMS, stream) or not is_number_below(KINDS, kind):
        return False
    return are_outs(lines, most, outs) and are_words(MOST_WORDS, words)


def parts_of(packet):
    """How many cells what is known to be a packet is cut into."""
    return (len(packet[3]) + WORDS_OF_A_CELL - 1) // WORDS_OF_A_CELL


def cells_in(packet):
    """How many cells a packet is cut into."""
    if not is_packet(MOST_LINES, MOST_COPIES, packet):
        raise NoPacket()
    return parts_of(packet)


def check_of(packet, part, left, words):
    """The check of a load, from its other parts."""
    return (sum([place * word for place, word in enumerate(words, start=1)]) + 7 * part + 11 * left
            + 13 * packet) % CHECK_BOUND


def is_load(thing):
    """Whether a thing is a load with the right check."""
    if not is_tuple_of(5, thing):
        return False
    packet, part, left, words, check = thing
    if not is_integer_from(0, GREATEST_PACKET, packet) or not is_number_below(MOST_PARTS, part):
        return False
    if not is_number_below(MOST_PARTS - part, left) or not are_words(WORDS_OF_A_CELL, words):
        return False
    if left > 0 and len(words) < WORDS_OF_A_CELL:
        return False
    return is_number_below(CHECK_BOUND, check) and check == check_of(packet, part, left, words)


def is_row(lines, most, thing):
    """Whether a thing is a row of pairs (beat, packet) of a line whose cells all come in time."""
    if not isinstance(thing, tuple):
        return False
    last = 0
    through = 0
    for item in thing:
        if not is_tuple_of(2, item) or not is_integer_from(last, LAST_BEGINNING, item[0]):
            return False
        last, packet = item
        if not is_packet(lines, most, packet):
            return False
        through = max(through, last) + parts_of(packet)
        if through > MOST_BEATS:
            return False
    return True


def check_rows(lines, most, rows):
    if not is_tuple_of(lines, rows):
        raise BadRows(-1)
    for line, row in enumerate(rows):
        if not is_row(lines, most, row):
            raise BadRows(line)


def loads_of(number, packet):
    """The loads of a packet with this number, part by part."""
    words = packet[3]
    parts = parts_of(packet)
    loads = []
    for part in range(parts):
        told = words[WORDS_OF_A_CELL * part:WORDS_OF_A_CELL * (part + 1)]
        left = parts - 1 - part
        loads.append((number, part, left, told, check_of(number, part, left, told)))
    return loads


def coming_at_line(row, first):
    """What comes at a line, by beats: pairs of an arrival and a load, the packets being numbered from first on."""
    coming = {}
    through = 0
    for number, (beat, packet) in enumerate(row, start=first):
        stream, kind, outs, _ = packet
        through = max(through, beat)
        for load in loads_of(number, packet):
            coming[through] = ((stream, kind, outs), load)
            through += 1
    return coming


def laid(lines, most, rows):
    """The arrivals that rows of packets make, and the loads of their cells."""
    check_lines(lines)
    check_most(most)
    check_rows(lines, most, rows)
    at_lines = []
    first = 0
    for row in rows:
        at_lines.append(coming_at_line(row, first))
        first += len(row)
    beats = 1 + max([beat for coming in at_lines for beat in coming], default=-1)
    arrivals = []
    loads = {}
    for beat in range(beats):
        arrivals.append(tuple([coming[beat][0] if beat in coming else None for coming in at_lines]))
        for coming in at_lines:
            if beat in coming:
                loads[len(loads)] = coming[beat][1]
    return (tuple(arrivals), loads)


class Gatherer:
    """Puts packets together at outputs."""

    def __init__(self, outputs):
        if not is_integer_from(1, MOST_LINES, outputs):
            raise NoNumber()
        # For each output, by packets: how many parts there are in all, and the words of those that came. A packet
        # that is whole stays, so that a part of it that comes once more is known.
        self._begun = [{} for _ in range(outputs)]

    def _check_output(self, output):
        if not is_number_below(len(self._begun), output):
            raise NoOutput()

    def comes(self, output, thing):
        """A load comes at an output: the words of its packet if all parts have come there, else None."""
        self._check_output(output)
        if not is_load(thing):
            raise BadLoad()
        packet, part, left, words, _ = thing
        many, parts = self._begun[output].get(packet, (part + left + 1, {}))
        if part in parts:
            raise Twice()
        if part + left + 1 != many:
            raise Mixed()
        parts[part] = words
        self._begun[output][packet] = (many, parts)
        if len(parts) < many:
            return None
        return tuple([word for number in range(many) for word in parts[number]])

    def lacking(self, output):
        """The packets that are begun and not whole, with the parts that lack."""
        self._check_output(output)
        lacking = []
        for packet, (many, parts) in self._begun[output].items():
            lot = tuple([part for part in range(many) if part not in parts])
            if lot:
                lacking.append((packet, lot))
        return sorted(lacking)


def delivered(lines, most, programs, rows):
    """The packets that come whole at outputs, as rows of them are run by the switch."""
    arrivals, loads = laid(lines, most, rows)
    sent = account_of(lines, most, programs, arrivals)["sent"]
    gatherer = Gatherer(lines)
    told = []
    for beat, left in enumerate(sent):
        for output, cell in enumerate(left):
            words = None if cell is None else gatherer.comes(output, loads[cell])
            if words is not None:
                told.append((beat, output, loads[cell][0], words))
    return told
