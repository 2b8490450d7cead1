"""A desk that leads a house by lines of text, and tales of what it tells (15.2)."""

from exactbeats.errors import (BadProgram, BadText, FewPlanes, NoNumber, NoPhase, NoPlane, NoPrograms, NoSaying,
                               NoTale)
from exactbeats.house import House
from exactbeats.kinds import is_number_below
from exactbeats.numerals import number_in
from exactbeats.ranktexts import read_settings
from exactbeats.texts import coming_in

MOST_BEATS_OF_A_RUN = 400
NOTHING = "none"
DONE = "ok"


def listed(items):
    """Things with blanks between."""
    return " ".join([f"{item}" for item in items]) if items else NOTHING


def cells_listed(keys):
    return listed([cell for _, cell in keys])


def left_listed(left):
    """The cells that a beat sent, output by output."""
    return listed(["-" if cell is None else cell for cell in left])


def check_end(house, number):
    """Raises NoNumber for what is no number of a line, nor so of an output, of a house."""
    if not is_number_below(len(house.standing()), number):
        raise NoNumber()


def do_run(house, many):
    """So many beats without arrivals: what the last one sent."""
    if not 1 <= many <= MOST_BEATS_OF_A_RUN:
        raise NoNumber()
    nothing = tuple([None for _ in house.standing()])
    for _ in range(many - 1):
        house.beat(nothing)
    return left_listed(house.beat(nothing))


def do_down(house, plane):
    house.lose(plane)
    return DONE


def do_up(house, plane):
    house.back(plane)
    return DONE


def do_break(house, phase):
    house.broken(phase)
    return DONE


def tell_row(house, line):
    """The copies that wait at a line, in its row."""
    check_end(house, line)
    return listed([f"{cell}>{output}" for output, (_, cell) in house.standing()[line]])


def tell_store(house, output):
    """The cells in an output's store, by their keys."""
    check_end(house, output)
    return cells_listed(house.stores()[output])


def tell_held(house, output):
    """The cells that an ideal output holds, by their keys."""
    check_end(house, output)
    return cells_listed(house.ideal_rows()[output])


def tell_slack(house, line):
    """The slacks along a line's row."""
    check_end(house, line)
    return listed(house.slacks()[line])


def tell_planes(house):
    return listed(house.whole())


def tell_way(house):
    """What went over in the last phase, or try, of the last beat."""
    tries = house.ways()
    return listed([f"{line}>{plane}>{output}" for line, output, _, plane in tries[-1]]) if tries else NOTHING


def tell_count(house):
    return listed(house.counts())


# What a word does alone, and what one does that a number follows.
ALONE = {"planes": tell_planes, "way": tell_way, "count": tell_count}
NUMBERED = {"run": do_run, "down": do_down, "up": do_up, "break": do_break, "row": tell_row, "store": tell_store,
            "held": tell_held, "slack": tell_slack}


class Desk:
    """Leads a house by lines."""

    def __init__(self, n, r, most, planes):
        self._house = House(n, r, most, planes)
        self._lines = n * r
        self._most = most

    def tell(self, line):
        """Does what a line says, and tells what comes of it."""
        # A line feed stands in no line: in settings there is a sign for it.
        if not isinstance(line, str) or "\n" in line:
            raise NoSaying()
        if line in ALONE:
            action = ALONE[line]
            return action(self._house)
        word, _, told = line.partition(" ")
        if word == "settings":
            return self._settings(told)
        if word == "beat":
            return self._beat(told)
        number = number_in(told)
        if word not in NUMBERED or number is None:
            raise NoSaying()
        action = NUMBERED[word]
        return action(self._house, number)

    def _settings(self, told):
        try:
            programs = read_settings(told.replace(";", "\n"))
        except (BadText, BadProgram, NoPrograms):
            raise NoSaying() from None
        self._house.turn(programs)
        return DONE

    def _beat(self, told):
        coming = coming_in(self._lines, self._most, told)
        if coming is None:
            raise NoSaying()
        return left_listed(self._house.beat(coming))


def told_by(desk, line):
    """What a desk tells to a line: an error as its class's name in parentheses."""
    try:
        return desk.tell(line)
    except NoSaying:
        return "(NoSaying)"
    except NoNumber:
        return "(NoNumber)"
    except NoPrograms:
        return "(NoPrograms)"
    except NoPlane:
        return "(NoPlane)"
    except FewPlanes:
        return "(FewPlanes)"
    except NoPhase:
        return "(NoPhase)"


def tale(n, r, most, planes, lines):
    """What a new desk tells to lines, one behind the other."""
    desk = Desk(n, r, most, planes)
    if not isinstance(lines, (list, tuple)):
        raise NoTale()
    return [told_by(desk, line) for line in lines]
