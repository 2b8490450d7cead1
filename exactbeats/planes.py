"""Middle planes: ways for wishes through them, laid at once or one by one (9.1 to 9.3)."""

from exactbeats.colours import all_coloured, with_room
from exactbeats.errors import Barred, NoNumber, NoPlane, NoPlanes, NoSizes, NoWay, NoWish, NoWishes
from exactbeats.kinds import all_unlike, is_integer_from, is_lot_below, is_number_below, is_pair_below, is_tuple_of

MOST_PLANES = 12
GREATEST_SIZE = 12


def are_sizes(thing):
    """Whether a thing is a pair of how many lines a box has, and how many boxes there are."""
    if not is_tuple_of(2, thing) or not all([is_integer_from(1, GREATEST_SIZE, size) for size in thing]):
        return False
    return thing[0] * thing[1] <= GREATEST_SIZE


def check_sizes(sizes):
    if not are_sizes(sizes):
        raise NoSizes()


def check_alive(alive):
    if not is_lot_below(MOST_PLANES, alive):
        raise NoPlanes()


def is_wish(sizes, thing):
    return is_pair_below(sizes[0] * sizes[1], thing)


def are_apart(wishes):
    """Whether wishes have unlike lines and unlike outputs."""
    return all_unlike([line for line, _ in wishes]) and all_unlike([output for _, output in wishes])


def are_wishes(sizes, thing):
    if not isinstance(thing, tuple) or not all([is_wish(sizes, wish) for wish in thing]):
        return False
    return list(thing) == sorted(thing) and are_apart(thing)


def check_asked(sizes, alive, wishes):
    """Raises what is due for things that are no sizes, no planes, no wishes."""
    check_sizes(sizes)
    check_alive(alive)
    if not are_wishes(sizes, wishes):
        raise NoWishes()


def box_tie(sizes, wish):
    """The boxes of a wish's line and output."""
    return (wish[0] // sizes[0], wish[1] // sizes[0])


def check_room(sizes, alive, wishes):
    """Raises NoWay for the first box that has more wishes than planes are alive."""
    ties = [box_tie(sizes, wish) for wish in wishes]
    for place, side in enumerate(("in", "out")):
        for box in range(sizes[1]):
            if len([tie for tie in ties if tie[place] == box]) > len(alive):
                raise NoWay(side, box)


def ways(sizes, alive, wishes):
    """A plane for each wish."""
    check_asked(sizes, alive, wishes)
    check_room(sizes, alive, wishes)
    return all_coloured([box_tie(sizes, wish) for wish in wishes], alive)


def go_apart(sizes, laid):
    """Whether of pairs (wish, plane) no two of one box, on either side, have one plane."""
    ties = [(box_tie(sizes, wish), plane) for wish, plane in laid]
    return all_unlike([(tie[0], plane) for tie, plane in ties]) and all_unlike([(tie[1], plane) for tie, plane in ties])


def are_ways(sizes, alive, wishes, thing):
    """Whether a thing is ways for wishes."""
    check_asked(sizes, alive, wishes)
    if not is_tuple_of(len(wishes), thing):
        return False
    if not all([is_number_below(MOST_PLANES, plane) and plane in alive for plane in thing]):
        return False
    return go_apart(sizes, list(zip(wishes, thing)))


def that_bar(sizes, laid, wish, plane):
    """The wishes laid by a plane, as pairs (wish, plane) tell, whose line or output is of the same box as one's."""
    line_box, output_box = box_tie(sizes, wish)
    barring = []
    for other, used in laid:
        tie = box_tie(sizes, other)
        if used == plane and (tie[0] == line_box or tie[1] == output_box):
            barring.append(other)
    return barring


def planes_free(sizes, planes, laid, wish):
    """Those of some planes that no laid wish bars for one."""
    return tuple([plane for plane in planes if not that_bar(sizes, laid, wish, plane)])


def is_plane(thing):
    return is_number_below(MOST_PLANES, thing)


class Laid:
    """Wishes with their ways, put and dropped one by one, and planes that are lost and come back."""

    def __init__(self, sizes, alive):
        check_sizes(sizes)
        check_alive(alive)
        self._sizes = sizes
        self._alive = alive
        self._plane_of = {}
        self._moved = 0

    def _check_wish(self, wish):
        """Raises NoWish for what is none between a free line and a free output."""
        if not is_wish(self._sizes, wish) or not are_apart(list(self._plane_of) + [wish]):
            raise NoWish()

    def _put_in(self, wish):
        """Lays a wish for which there is a way; returns how many others changed their plane."""
        wishes = list(self._plane_of)
        ties = [box_tie(self._sizes, other) for other in wishes]
        planes = list(self._plane_of.values())
        plane, turned = with_room(ties, planes, self._alive, box_tie(self._sizes, wish))
        moved = len([old for old, new in zip(planes, turned) if old != new])
        self._plane_of = {other: new for other, new in zip(wishes + [wish], turned + [plane])}
        self._moved += moved
        return moved

    def put(self, wish):
        """Lays a wish; returns how many others changed their plane."""
        self._check_wish(wish)
        check_room(self._sizes, self._alive, list(self._plane_of) + [wish])
        return self._put_in(wish)

    def put_by(self, wish, plane):
        """Lays a wish by this plane."""
        self._check_wish(wish)
        if not is_plane(plane) or plane not in self._alive:
            raise NoPlane()
        barring = that_bar(self._sizes, self.laid(), wish, plane)
        if barring:
            raise Barred(barring[0])
        self._plane_of[wish] = plane

    def drop(self, wish):
        """A laid wish is laid no more."""
        if not is_wish(self._sizes, wish) or wish not in self._plane_of:
            raise NoWish()
        del self._plane_of[wish]

    def lose(self, plane):
        """A plane is alive no more, its wishes are put anew; returns those for which there was no way."""
        if not is_plane(plane) or plane not in self._alive:
            raise NoPlane()
        self._alive = tuple([other for other in self._alive if other != plane])
        dropped = sorted([wish for wish in self._plane_of if self._plane_of[wish] == plane])
        self._plane_of = {wish: self._plane_of[wish] for wish in self._plane_of if wish not in dropped}
        left = []
        for wish in dropped:
            try:
                self.put(wish)
            except NoWay:
                left.append(wish)
        return tuple(left)

    def back(self, plane):
        """A plane is alive again."""
        if not is_plane(plane) or plane in self._alive:
            raise NoPlane()
        self._alive = tuple(sorted(list(self._alive) + [plane]))

    def laid(self):
        """The wishes that are laid, with their planes, ascending."""
        return tuple([(wish, self._plane_of[wish]) for wish in sorted(self._plane_of)])

    def alive(self):
        """The planes that are alive."""
        return self._alive

    def free_for(self, wish):
        """The planes by which a wish could be put without a move."""
        self._check_wish(wish)
        return planes_free(self._sizes, self._alive, self.laid(), wish)

    def moved(self):
        """How many others changed their plane in all, by put and by lose."""
        return self._moved

    def copy(self):
        """One that holds the same, and goes on apart."""
        other = Laid(self._sizes, self._alive)
        other._plane_of = {wish: self._plane_of[wish] for wish in self._plane_of}
        other._moved = self._moved
        return other


def check_planes(many):
    """Raises NoNumber unless many is how many planes there may be."""
    if not is_integer_from(1, MOST_PLANES, many):
        raise NoNumber()


def barred_laid(sizes, many):
    """Laid wishes, with their planes below many, that bar each plane for a further wish; None if none can."""
    check_sizes(sizes)
    check_planes(many)
    lines, boxes = sizes
    others = lines - 1
    if boxes == 1:
        laid = [((line, line), line - 1) for line in range(1, lines)]
    else:
        # Wishes from the first box and wishes to it share no box with each other: so each bars a plane of its own.
        laid = [((line, others + line), line - 1) for line in range(1, lines)]
        laid += [((others + line, line), others + line - 1) for line in range(1, lines)]
    if many > len(laid):
        return None
    return (tuple([(wish, plane) for wish, plane in laid if plane < many]), (0, 0))


def is_laid(sizes, many, thing):
    """Whether a thing is pairs (wish, plane), ascending, that can be laid one behind another by planes below many."""
    if not isinstance(thing, tuple) or not all([is_tuple_of(2, pair) for pair in thing]):
        return False
    if not all([is_number_below(many, plane) for _, plane in thing]):
        return False
    return are_wishes(sizes, tuple([wish for wish, _ in thing])) and go_apart(sizes, thing)


def is_barred_laid(sizes, many, thing):
    """Whether a thing is laid wishes and a further one for which no plane below many is free."""
    check_sizes(sizes)
    check_planes(many)
    if not is_tuple_of(2, thing) or not is_laid(sizes, many, thing[0]) or not is_wish(sizes, thing[1]):
        return False
    laid, wish = thing
    if not are_apart([other for other, _ in laid] + [wish]):
        return False
    return not planes_free(sizes, list(range(many)), laid, wish)
