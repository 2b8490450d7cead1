"""Houses: 12.1 and 12.2."""

import unittest

from exactbeats.cells import Cell
from exactbeats.errors import (BadArrivals, FewPlanes, NoMost, NoPhase, NoPlane, NoPlanes, NoPrograms, NoSizes)
from exactbeats.house import House
from exactbeats.ideal import Ideal
from exactbeats.planes import are_ways
from exactbeats.ranks import Program, Ranker
from tests.drawn import Drawn, drawn_arrivals_of_beat
from tests.odd import check_raises, not_integers_from, odd_things
from tests.test_planes import SIZES
from tests.test_ranks import drawn_block
from tests.test_switch import slacks_of

A = (0, 0, (0,))
COUNT = Program((("keep", "n", ("-", ("keep", "n"), ("num", 1))), ("own", "m", ("+", ("own", "m"), ("num", 1))),
                 ("rank", ("keep", "n"))))
HELD = Program((("rank", ("-", ("num", 0), ("+", ("*", ("num", 1000), ("fact", "beat")), ("fact", "held")))),))


def state(house):
    """All that a house tells of itself."""
    return (house.standing(), house.stores(), house.ideal_rows(), house.slacks(), house.whole(), house.ways(),
            house.counts(), house.book())


def wrong_items(lines, most):
    """Things that are neither None nor an arrival."""
    right = (0, 0, (0,))
    wrong = [[*right], right[:2], right + (0,), (100, 0, (0,)), (0, 8, (0,)), (-1, 0, (0,)), (0, -1, (0,)), (0, 0, ()),
             (0, 0, (lines,)), (0, 0, [0]), (0, 0, (0, 0)), (0, 0, tuple(range(most + 1))), (True, 0, (0,)),
             (0, False, (0,)), (0, 0, (False,)), (0, 0, 0)]
    return wrong + [thing for thing in odd_things() if thing is not None]


class PlainHouse:
    """What leaves by 12.1, told anew by an ideal switch and a ranker of its own."""

    def __init__(self, lines):
        self.ideal, self.ranker = Ideal(lines), Ranker((Program(()),) * lines)
        self.lines, self.beats, self.number, self.left, self.keys, self.book = lines, 0, 0, 0, {}, []
        self.ranks = {}

    def beat(self, arrivals):
        came = []
        for line, arrival in enumerate(arrivals):
            if arrival is not None:
                cell = Cell(self.number, line, *arrival)
                ranks = [self.ranker.rank(self.beats, cell, output, len(self.ideal.held(output)))
                         for output in arrival[2]]
                for output, rank in zip(arrival[2], ranks):
                    self.ideal.push(output, (rank, self.number))
                    self.keys[self.number, output] = line
                    self.ranks[self.number, output] = rank
                came.append((self.number, line))
                self.number += 1
        left = tuple([self.ideal.let_go(output)[1] if self.ideal.held(output) else None
                      for output in range(self.lines)])
        self.left += len([cell for cell in left if cell is not None])
        self.book.append((tuple(came), left))
        self.beats += 1
        return left


class Making(unittest.TestCase):
    def test_a_new_house(self):
        for n, r in SIZES:
            for most, planes in ((1, n), (3, 12)):
                house = House(n, r, most, planes)
                empty = ((),) * (n * r)
                self.assertEqual(state(house), (empty, empty, empty, empty, tuple(range(planes)), [], (0, 0, 0), []))

    def test_errors_in_their_order(self):
        for thing in not_integers_from(1, 12):
            check_raises(self, NoSizes, {}, House, thing, 1, None, None)
            check_raises(self, NoSizes, {}, House, 1, thing, None, None)
        for n, r in ((13, 1), (1, 13), (4, 4), (7, 2), (0, 1), (1, 0), (12, 2)):
            check_raises(self, NoSizes, {}, House, n, r, 0, 0)
        for thing in not_integers_from(1, 3):
            check_raises(self, NoMost, {}, House, 2, 2, thing, None)
        for n, r in SIZES:
            for thing in not_integers_from(n, 12) if (n, r) in ((1, 1), (3, 4)) else [n - 1, 13]:
                check_raises(self, NoPlanes, {}, House, n, r, 1, thing)


class Beats(unittest.TestCase):
    def test_the_first_house(self):
        house = House(1, 2, 1, 2)
        self.assertEqual(house.beat((A, A)), (0, None))
        self.assertEqual(house.stores(), (((0, 1),), ()))
        self.assertEqual(house.beat((None, (0, 0, (1,)))), (1, 2))
        self.assertEqual(house.book(), [(((0, 0), (1, 1)), (0, None)), (((2, 1),), (1, 2))])
        self.assertEqual(house.counts(), (3, 3, 0))

    def test_cells_are_numbered_line_by_line(self):
        house = House(3, 1, 2, 3)
        house.beat((None, (0, 0, (1, 2)), (0, 0, (1,))))
        house.beat(((0, 0, (1,)), None, (0, 0, (0, 2))))
        self.assertEqual(house.book(), [(((0, 1), (1, 2)), (None, 0, 0)), (((2, 0), (3, 2)), (3, 1, 3))])
        self.assertEqual(house.counts(), (4, 5, 1))

    def test_ranks_by_the_beat_and_what_is_held(self):
        house = House(2, 2, 2, 3)
        house.turn((HELD, COUNT, Program(()), HELD))
        house.beat((A, A, (0, 0, (0, 1)), (0, 0, (1, 3))))
        # At output 0: ranks 0, -1, -2; the last one leaves. At output 1 the second one, of rank -2.
        self.assertEqual(house.ideal_rows(), (((-1, 1), (0, 0)), ((-1, 2),), (), ()))
        house.beat((None, (5, 5, (0, 3)), None, A))
        # Two are held at output 0 as cell 4 comes, three as cell 5 does.
        self.assertEqual(house.ideal_rows()[0], ((-1002, 4), (-1, 1), (0, 0)))
        self.assertEqual(house.book()[1], (((4, 1), (5, 3)), (5, 2, None, 4)))

    def test_held_is_of_the_output(self):
        house = House(3, 1, 3, 3)
        house.turn((HELD,) * 3)
        house.beat(((0, 0, (0, 1)), (0, 0, (1,)), (0, 0, (0, 1, 2))))
        self.assertEqual(house.ideal_rows(), (((0, 0),), ((-1, 1), (0, 0)), ()))
        self.assertEqual(house.book(), [(((0, 0), (1, 1), (2, 2)), (2, 2, 2))])

    def test_wrong_arrivals(self):
        house = House(2, 1, 1, 2)
        house.turn((COUNT, COUNT))
        house.beat((A, A))
        house.broken(1)
        before = state(house)
        for thing in [*odd_things(), (), (A,), (A, A, A), [A, A], [None, None]]:
            if thing not in ((None, None),):
                wrong = not isinstance(thing, tuple) or len(thing) != 2
                check_raises(self, BadArrivals, {"at": -1 if wrong else 0}, house.beat, thing)
        for thing in wrong_items(2, 1):
            check_raises(self, BadArrivals, {"at": 0}, house.beat, (thing, thing))
            check_raises(self, BadArrivals, {"at": 1}, house.beat, (A, thing))
            check_raises(self, BadArrivals, {"at": 1}, house.beat, (None, thing))
        self.assertEqual(state(house), before)
        # What is told broken stays told; no numbers were kept, no cell was counted.
        house.beat((A, None))
        self.assertEqual(len(house.ways()), 3)
        self.assertEqual(house.ideal_rows()[0], ((-1, 0),))
        self.assertEqual(house.book()[-1], (((2, 0),), (2, None)))

    def test_200_beats_and_more(self):
        house = House(2, 1, 1, 2)
        for beat in range(230):
            self.assertEqual(house.beat((A, None)), (beat, None))
        self.assertEqual((house.counts(), len(house.book())), ((230, 230, 0), 230))


class Turning(unittest.TestCase):
    def test_from_the_next_beat_on_with_what_was_kept(self):
        house = House(2, 1, 1, 2)
        rows = []
        for programs in ((COUNT, HELD), (HELD, COUNT), (COUNT, HELD)):
            self.assertIsNone(house.turn(programs))
            house.beat((A, A))
            rows.append(house.ideal_rows()[0])
        # The ranks: -1 and -2, then -1001 and -1002, then -3 and -4, as the first ones were kept.
        self.assertEqual(rows, [((-1, 0),), ((-1001, 2), (-1, 0)), ((-4, 5), (-3, 4), (-1, 0))])
        house.turn((Program((("rank", ("own", "m")),)), HELD))
        house.beat((A, None))
        self.assertEqual(house.ideal_rows()[0], ((-3, 4), (-1, 0), (4, 6)))

    def test_no_programs(self):
        house = House(2, 1, 1, 2)
        house.turn((COUNT, COUNT))
        for thing in odd_things():
            if not isinstance(thing, tuple):
                check_raises(self, NoPrograms, {"output": -1}, house.turn, thing)
            if not isinstance(thing, Program):
                check_raises(self, NoPrograms, {"output": 0}, house.turn, (thing, thing))
                check_raises(self, NoPrograms, {"output": 1}, house.turn, (COUNT, thing))
        for many in (0, 1, 3, 12):
            check_raises(self, NoPrograms, {"output": -1}, house.turn, (HELD,) * many)
        house.beat((A, A))
        self.assertEqual(house.ideal_rows(), (((-1, 0),), ()))


class Planes(unittest.TestCase):
    def test_lose_and_back(self):
        house = House(2, 2, 1, 4)
        for thing in not_integers_from(0, 3):
            check_raises(self, NoPlane, {}, house.lose, thing)
            check_raises(self, NoPlane, {}, house.back, thing)
        for thing in range(4):
            check_raises(self, NoPlane, {}, house.back, thing)
        self.assertIsNone(house.lose(3))
        self.assertIsNone(house.lose(0))
        self.assertEqual(house.whole(), (1, 2))
        for thing in (1, 2):
            check_raises(self, FewPlanes, {}, house.lose, thing)
        for thing in [*not_integers_from(0, 3), 0, 3, 4]:
            check_raises(self, NoPlane, {}, house.lose, thing)
        self.assertEqual(house.whole(), (1, 2))
        self.assertIsNone(house.back(3))
        self.assertEqual(house.whole(), (1, 2, 3))
        check_raises(self, NoPlane, {}, house.back, 3)
        house.lose(1)
        house.back(0)
        self.assertEqual(house.whole(), (0, 2, 3))

    def test_as_many_planes_as_lines_of_a_box(self):
        for n, r in SIZES:
            house = House(n, r, 1, n)
            for plane in range(n):
                check_raises(self, FewPlanes, {}, house.lose, plane)
            house.beat((A,) * (n * r))
            self.assertEqual(house.whole(), tuple(range(n)))

    def test_what_goes_over_goes_by_whole_planes(self):
        house = House(2, 2, 1, 5)
        for plane in (0, 2, 4):
            house.lose(plane)
        house.beat(tuple([(0, 0, (output,)) for output in range(4)]))
        first = house.ways()[0]
        self.assertEqual([quad[:3] for quad in first], [(line, line, line) for line in range(4)])
        self.assertEqual({plane for _, _, _, plane in first}, {1, 3})

    def test_broken_phases(self):
        house = House(2, 1, 2, 2)
        for thing in not_integers_from(0, 2):
            check_raises(self, NoPhase, {}, house.broken, thing)
        house.broken(0)
        self.assertIsNone(house.broken(0))
        house.broken(2)
        house.beat(((0, 0, (0, 1)), (0, 0, (0, 1))))
        carried = [tuple([quad[:3] for quad in each]) for each in house.ways()]
        self.assertEqual(carried, [((0, 0, 0), (1, 1, 1)), ((0, 0, 0), (1, 1, 1)), ((0, 1, 0), (1, 0, 1)), (), ()])
        # For one beat alone.
        house.beat((None, None))
        self.assertEqual(house.ways(), [(), (), ()])
        house.broken(1)
        house.beat((None, None))
        self.assertEqual(house.ways(), [(), (), (), ()])
        house.broken(2)
        house.beat((A, None))
        self.assertEqual([len(each) for each in house.ways()], [1, 0, 0, 0])


class Told(unittest.TestCase):
    def test_ways_are_of_the_last_beat(self):
        house = House(2, 1, 1, 2)
        self.assertEqual(house.ways(), [])
        house.beat((A, None))
        self.assertEqual([[quad[:3] for quad in each] for each in house.ways()], [[(0, 0, 0)], []])
        house.broken(0)
        self.assertEqual(len(house.ways()), 2)
        house.beat((None, (0, 0, (1,))))
        self.assertEqual([[quad[:3] for quad in each] for each in house.ways()], [[(1, 1, 1)], [(1, 1, 1)], []])

    def test_lists_are_new(self):
        house = House(1, 1, 1, 1)
        house.beat((A,))
        before = state(house)
        kept = repr(before)
        house.ways().clear()
        house.book().clear()
        self.assertEqual(repr(state(house)), kept)
        house.beat((A,))
        self.assertEqual(repr(before), kept)

    def test_copies_go_on_apart(self):
        house = House(1, 2, 2, 3)
        house.turn((COUNT, COUNT))
        house.beat((A, (0, 0, (0, 1))))
        house.lose(1)
        house.broken(1)
        other = house.copy()
        self.assertIs(other.__class__, House)
        self.assertFalse(house == other)
        self.assertEqual(state(other), state(house))
        before = state(house)
        other.lose(0)
        other.turn((HELD, HELD))
        other.broken(0)
        other.beat((A, A))
        self.assertEqual(len(other.ways()), 5)
        self.assertEqual(state(house), before)
        later = state(other)
        self.assertEqual(house.beat((A, A)), (3, None))
        self.assertEqual(len(house.ways()), 4)
        house.back(1)
        self.assertEqual(house.whole(), (0, 1, 2))
        self.assertEqual(house.ideal_rows()[0], ((-3, 2), (-1, 0)))
        self.assertEqual(state(other), later)
        self.assertEqual(other.whole(), (2,))

    def test_what_was_kept_is_copied(self):
        house = House(1, 1, 1, 1)
        house.turn((COUNT,))
        house.beat((A,))
        other = house.copy()
        self.assertEqual([house.beat((A,)), house.beat((A,)), other.beat((A,))], [(1,), (2,), (1,)])
        for each, told in ((house, 3), (other, 2)):
            each.turn((Program((("keep", "n", ("own", "m")), ("rank", ("-", ("num", 0), ("keep", "n"))))),))
            each.beat((A,))
            self.assertEqual(each.counts(), (told + 1, told + 1, 0))

    def test_numbers_kept_by_a_copy_are_its_own(self):
        house = House(2, 1, 1, 2)
        house.turn((COUNT, COUNT))
        house.beat((A, A))
        other = house.copy()
        other.beat((A, A))
        house.beat((A, A))
        self.assertEqual(house.ideal_rows(), other.ideal_rows())
        self.assertEqual(house.ideal_rows()[0], ((-3, 2), (-1, 0)))

    def test_equal_to_itself_alone(self):
        house = House(1, 1, 1, 1)
        self.assertTrue(house == house)
        for thing in [*odd_things(), House(1, 1, 1, 1)]:
            self.assertFalse(house == thing)


class GreatFact(unittest.TestCase):
    """Lives of houses: what leaves is what leaves the ideal switch, whatever befalls planes and phases."""

    def test_lives(self):
        drawn = Drawn(51)
        for n, r in [(1, 1), (1, 2), (2, 1), (2, 2), (3, 1), (2, 3), (3, 2), (1, 5), (4, 3), (6, 2), (12, 1), (1, 12)]:
            for most in (1, 2, 3):
                self.live(drawn, n, r, most, 14 if n * r > 6 else 20)

    def live(self, drawn, n, r, most, beats):
        lines, planes = n * r, n + drawn.below(13 - n)
        house, plain = House(n, r, most, planes), PlainHouse(lines)
        lost, carried = [], []
        for beat in range(beats):
            broken = self.befall(drawn, house, plain, lost, planes, most)
            arrivals = drawn_arrivals_of_beat(drawn, lines, most, 1 if beat % 5 else 4, 2 if beat % 5 else 5)
            if beat > beats - 4:
                arrivals = (None,) * lines
            if drawn.flag(1, 4):
                check_raises(self, BadArrivals, {"at": lines - 1}, house.beat, arrivals[:-1] + ((0, 0, ()),))
            self.assertEqual(house.beat(arrivals), plain.beat(arrivals))
            self.check_ways(house, n, r, most, broken, carried)
            self.check_told(house, plain, lost, planes)
        # Each copy that left went over, once, at the line at which its cell came.
        self.assertEqual(len(set(carried)), len(carried))
        left = [(cell, output) for _, row in plain.book for output, cell in enumerate(row) if cell is not None]
        self.assertLessEqual(set(left), {(cell, output) for _, output, cell in carried})
        for line, output, cell in carried:
            self.assertEqual(plain.keys[cell, output], line)

    def befall(self, drawn, house, plain, lost, planes, most):
        """What befalls a house ahead of a beat: returns which phases are told broken."""
        if drawn.flag(1, 4):
            programs = tuple([Program(drawn_block(drawn, 2)) for _ in range(plain.lines)])
            house.turn(programs)
            plain.ranker = plain.ranker.turned(programs)
        plane = drawn.below(planes)
        if plane in lost:
            house.back(plane)
            lost.remove(plane)
        else:
            try:
                house.lose(plane)
                lost.append(plane)
            except FewPlanes:
                pass
        broken = {drawn.below(most + 1) for _ in range(drawn.below(3))}
        for phase in broken:
            for _ in range(1 + drawn.below(2)):
                house.broken(phase)
        return broken

    def check_ways(self, house, n, r, most, broken, carried):
        tries = [phase for phase in range(most + 1) for _ in range(2 if phase in broken else 1)]
        self.assertEqual(len(house.ways()), len(tries))
        for at, (phase, quads) in enumerate(zip(tries, house.ways())):
            self.assertEqual((quads.__class__, list(quads)), (tuple, sorted(quads)))
            wishes = tuple([(line, output) for line, output, _, _ in quads])
            planes = tuple([plane for _, _, _, plane in quads])
            self.assertIs(are_ways((n, r), house.whole(), wishes, planes), True)
            ties = [(line // n, plane) for (line, _), plane in zip(wishes, planes)]
            self.assertEqual(len(set(ties)), len(ties))
            triples = [(line, output, cell) for line, output, cell, _ in quads]
            if at > 0 and tries[at - 1] == phase:
                self.assertEqual(triples, [quad[:3] for quad in house.ways()[at - 1]])
            else:
                carried.extend(triples)

    def check_told(self, house, plain, lost, planes):
        self.assertEqual(house.whole(), tuple([plane for plane in range(planes) if plane not in lost]))
        self.assertEqual(house.book(), plain.book)
        held = tuple([plain.ideal.held(output) for output in range(plain.lines)])
        self.assertEqual(house.ideal_rows(), held)
        self.assertEqual(house.counts(), (plain.number, plain.left, sum([len(keys) for keys in held])))
        waiting = [copy for row in house.standing() for copy in row]
        stored = [(output, key) for output, keys in enumerate(house.stores()) for key in keys]
        self.assertEqual(sorted(waiting + stored), [(output, key) for output, keys in enumerate(held) for key in keys])
        self.assertEqual(house.slacks(), slacks_of(house))
        self.assertTrue(all([slack >= 0 for slacks in house.slacks() for slack in slacks]))


if __name__ == "__main__":
    unittest.main()
