"""Matchings of a standing, what blocks them, and the stable ones (5.1 to 5.3)."""

from exactbeats.errors import NoMatching, TooMany
from exactbeats.kinds import is_number_below, is_tuple_of
from exactbeats.rows import check_standing, waiting_for

MOST_CHOICES = 20000


def fits(standing, thing):
    """Whether a thing is a matching of what is known to be a standing."""
    if not isinstance(thing, tuple):
        return False
    last = -1
    outputs = []
    for going in thing:
        if not is_tuple_of(3, going) or not is_number_below(len(standing), going[0]) or going[0] <= last:
            return False
        line, output, place = going
        if not is_number_below(len(standing), output) or not is_number_below(len(standing[line]), place):
            return False
        if standing[line][place][0] != output or output in outputs:
            return False
        last = line
        outputs.append(output)
    return True


def is_matching(standing, thing):
    """Whether a thing is a matching of a standing."""
    check_standing(standing)
    return fits(standing, thing)


def check_matching(standing, matching):
    """Raises NoMatching for what is none of what is known to be a standing."""
    if not fits(standing, matching):
        raise NoMatching()


def keys_that_go(standing, matching):
    """The key that goes over to each output for which one does."""
    return {output: standing[line][place][1] for line, output, place in matching}


def cells_that_go(standing, matching):
    """What goes over by a matching, as triples (line, output, cell)."""
    return tuple([(line, output, standing[line][place][1][1]) for line, output, place in matching])


def blocking(standing, matching):
    """The places of the copies that block, line by line."""
    place_at = {line: place for line, _, place in matching}
    going = keys_that_go(standing, matching)
    return [(line, place) for line, row in enumerate(standing)
            for place, (output, key) in enumerate(row[:place_at.get(line, len(row))])
            if output not in going or key < going[output]]


def blocks(standing, matching):
    """The lines and places of the copies that block a matching, ascending."""
    check_standing(standing)
    check_matching(standing, matching)
    return blocking(standing, matching)


def is_stable(standing, thing):
    """Whether a thing is a stable matching of a standing."""
    return is_matching(standing, thing) and not blocking(standing, thing)


def settled(asks):
    """What is kept once nobody that has none kept has one to ask: asks tells, for each that asks, what it asks in
    its order, as triples: who is asked, how the asked one ranks it, the less the better, and what then goes."""
    kept = {}
    asked = [0 for _ in asks]
    free = list(range(len(asks)))
    while free:
        asking = free.pop()
        if asked[asking] == len(asks[asking]):
            continue
        other, worth, going = asks[asking][asked[asking]]
        asked[asking] += 1
        if other not in kept:
            kept[other] = (worth, asking, going)
        elif worth < kept[other][0]:
            free.append(kept[other][1])
            kept[other] = (worth, asking, going)
        else:
            free.append(asking)
    return tuple(sorted([kept[other][2] for other in kept]))


def by_asks_of_lines(standing):
    """The stable matching of stable_matching, of what is known to be a standing."""
    return settled([[(output, key, (line, output, place)) for place, (output, key) in enumerate(row)]
                    for line, row in enumerate(standing)])


def stable_matching(standing):
    """The stable matching by asks of lines."""
    check_standing(standing)
    return by_asks_of_lines(standing)


def stable_for_outputs(standing):
    """The stable matching by asks of outputs."""
    check_standing(standing)
    return settled([[(line, place, (line, output, place)) for _, line, place in waiting_for(standing, output)]
                    for output in range(len(standing))])


def with_line(matchings, line, row):
    """All matchings that these become with, or without, a copy of one more line."""
    longer = []
    for matching in matchings:
        used = [going[1] for going in matching]
        more = [(line, output, place) for place, (output, _) in enumerate(row) if output not in used]
        longer.append(matching)
        longer.extend([matching + (going,) for going in more])
    return longer


def least_ahead(row):
    """For each place of a row, and the one behind it, the least key ahead of it for each output."""
    tables = [{}]
    for output, key in row:
        table = dict(tables[-1])
        table[output] = min(key, table.get(output, key))
        tables.append(table)
    return tables


def is_settled(standing, ahead, matching):
    """Whether no copy blocks a matching: as blocking tells, but without a walk down the rows."""
    place_at = {line: place for line, _, place in matching}
    going = keys_that_go(standing, matching)
    for line, tables in enumerate(ahead):
        table = tables[place_at.get(line, len(tables) - 1)]
        if any([output not in going or table[output] < going[output] for output in table]):
            return False
    return True


def all_stable(standing):
    """All stable matchings, ascending."""
    check_standing(standing)
    choices = 1
    for row in standing:
        choices *= len(row) + 1
    if choices > MOST_CHOICES:
        raise TooMany(MOST_CHOICES)
    matchings = [()]
    for line, row in enumerate(standing):
        matchings = with_line(matchings, line, row)
    ahead = [least_ahead(row) for row in standing]
    return sorted([matching for matching in matchings if is_settled(standing, ahead, matching)])


def matched(standing, matching):
    """The standing without the copies that go by a matching, and these, ascending."""
    check_standing(standing)
    check_matching(standing, matching)
    place_at = {line: place for line, _, place in matching}
    left = tuple([tuple([copy for place, copy in enumerate(row) if place != place_at.get(line)])
                  for line, row in enumerate(standing)])
    return (left, tuple(sorted([standing[line][place] for line, _, place in matching])))
