"""A house: a whole fabric, with programs that give ranks and planes that carry what goes over (12.1, 12.2)."""

from exactbeats.cells import Cell, check_most, first_wrong_item
from exactbeats.errors import BadArrivals, FewPlanes, NoPhase, NoPlane, NoPlanes
from exactbeats.kinds import is_integer_from, is_tuple_of
from exactbeats.planes import MOST_PLANES, check_sizes, is_plane, ways
from exactbeats.ranks import Program, Ranker
from exactbeats.runs import ranked
from exactbeats.switch import Switch, carried_by, cells_of


class House:
    """A whole fabric: a switch, a ranker, and planes that are whole or lost."""

    def __init__(self, n, r, most, planes):
        check_sizes((n, r))
        check_most(most)
        if not is_integer_from(n, MOST_PLANES, planes):
            raise NoPlanes()
        self._sizes = (n, r)
        self._lines = n * r
        self._most = most
        self._planes = planes
        self._whole = tuple(range(planes))
        self._switch = Switch(n * r, most)
        self._ranker = Ranker(tuple([Program(()) for _ in range(n * r)]))
        # The phases that are told broken for the next beat.
        self._broken = {}
        self._ways = []
        self._book = []
        self._came = 0
        self._copies_came = 0
        self._copies_left = 0

    def _check_arrivals(self, arrivals):
        if not is_tuple_of(self._lines, arrivals):
            raise BadArrivals(-1)
        wrong = first_wrong_item(self._lines, self._most, arrivals)
        if wrong is not None:
            raise BadArrivals(wrong)

    def _come(self, line, arrival):
        """A cell gets its ranks, output by output, and comes: returns its number."""
        stream, kind, outs = arrival
        cell = Cell(self._came, line, stream, kind, outs)
        held = [len(keys) for keys in self._switch.ideal_rows()]
        self._switch.come(line, ranked(self._ranker, self._switch.beats(), cell, held))
        self._came += 1
        self._copies_came += len(outs)
        return cell.came_as

    def _try_by_planes(self, going):
        """What goes over, as triples (line, output, cell), laid over the planes that are whole."""
        planes = ways(self._sizes, self._whole, tuple([(line, output) for line, output, _ in going]))
        return tuple([(line, output, cell, plane) for (line, output, cell), plane in zip(going, planes)])

    def _phase(self, phase):
        """Makes a phase: what its tries carry."""
        going = carried_by(self._switch)
        tries = 2 if phase in self._broken else 1
        return [self._try_by_planes(going) for _ in range(tries)]

    def beat(self, arrivals):
        """A beat: the numbers of the cells that leave, output by output."""
        self._check_arrivals(arrivals)
        came = []
        for line, arrival in enumerate(arrivals):
            if arrival is not None:
                came.append((self._come(line, arrival), line))
        self._ways = []
        for phase in range(self._most + 1):
            self._ways.extend(self._phase(phase))
        self._broken = {}
        left = cells_of(self._switch.send())
        self._copies_left += len([cell for cell in left if cell is not None])
        self._book.append((tuple(came), left))
        return left

    def turn(self, programs):
        """From the next beat on these programs give ranks."""
        self._ranker = self._ranker.turned(programs)

    def lose(self, plane):
        """A plane is lost."""
        if not is_plane(plane) or plane not in self._whole:
            raise NoPlane()
        if len(self._whole) == self._sizes[0]:
            raise FewPlanes()
        self._whole = tuple([other for other in self._whole if other != plane])

    def back(self, plane):
        """A plane that was lost is whole again."""
        if not is_integer_from(0, self._planes - 1, plane) or plane in self._whole:
            raise NoPlane()
        self._whole = tuple(sorted(list(self._whole) + [plane]))

    def broken(self, phase):
        """In the next beat what goes over in this phase is laid once more."""
        if not is_integer_from(0, self._most, phase):
            raise NoPhase()
        self._broken[phase] = True

    def standing(self):
        """The rows as they stand."""
        return self._switch.standing()

    def stores(self):
        """The keys in each output's store."""
        return self._switch.stores()

    def ideal_rows(self):
        """The keys that each ideal output holds."""
        return self._switch.ideal_rows()

    def slacks(self):
        """The slacks along each line's row."""
        return self._switch.slacks()

    def whole(self):
        """The planes that are whole."""
        return self._whole

    def ways(self):
        """What the last beat carried, phase by phase and try by try."""
        return list(self._ways)

    def counts(self):
        """How many cells came, how many copies left, and how many are inside."""
        return (self._came, self._copies_left, self._copies_came - self._copies_left)

    def book(self):
        """What came and what left, beat by beat."""
        return list(self._book)

    def copy(self):
        """One that holds the same, and goes on apart."""
        other = House(self._sizes[0], self._sizes[1], self._most, self._planes)
        other._whole = self._whole
        other._switch = self._switch.copy()
        other._ranker = self._ranker.copy()
        other._broken = dict(self._broken)
        other._ways = list(self._ways)
        other._book = list(self._book)
        other._came = self._came
        other._copies_came = self._copies_came
        other._copies_left = self._copies_left
        return other
