"""Accounts of runs of beats, made by the switch itself, and judged (13.1)."""

from exactbeats.kinds import is_integer, is_tuple_of
from exactbeats.runs import Passage, run_by_programs
from exactbeats.switch import Switch, carried_by, cells_of


def account_of(lines, most, programs, arrivals):
    """The account of the switch over arrivals."""
    beats = run_by_programs(lines, most, programs, arrivals)
    switch = Switch(lines, most)
    carried = []
    sent = []
    for came, _ in beats:
        for cell, pairs in came:
            switch.come(cell.at_line, pairs)
        carried.append([carried_by(switch) for _ in range(most + 1)])
        sent.append(cells_of(switch.send()))
    return {"carried": carried, "sent": sent}


def is_list_of(many, thing):
    return isinstance(thing, list) and len(thing) == many


def is_cell_or_none(cell, thing):
    """Whether a thing is just this number of a cell, or this None."""
    if cell is None:
        return thing is None
    # Equality would take a flag for a number.
    return is_integer(thing) and thing == cell


def is_sent(left, thing):
    """Whether a thing is the very tuple of what leaves."""
    return is_tuple_of(len(left), thing) and all([is_cell_or_none(cell, told) for cell, told in zip(left, thing)])


def is_right_beat(passage, left, phases, sent):
    """Whether the phases that are told for a beat carry what they may, and what is told as sent is what leaves, and
    was carried by then."""
    for phase in phases:
        if not passage.carries(phase):
            return False
    return is_sent(left, sent) and passage.first_late(left) is None


def is_right_account(lines, most, programs, arrivals, thing):
    """Whether a thing is a right account over arrivals."""
    beats = run_by_programs(lines, most, programs, arrivals)
    if not isinstance(thing, dict):
        return False
    carried = thing.get("carried")
    sent = thing.get("sent")
    if not is_list_of(len(beats), carried) or not is_list_of(len(beats), sent):
        return False
    passage = Passage(lines)
    for beat, (came, left) in enumerate(beats):
        passage.come(came)
        if not is_list_of(most + 1, carried[beat]) or not is_right_beat(passage, left, carried[beat], sent[beat]):
            return False
    return True
