"""Sizes, ways, laid wishes, the fact of staying: 9.1 to 9.3."""

import itertools
import unittest

from exactbeats.colours import with_tie
from exactbeats.errors import Barred, NoNumber, NoPlane, NoPlanes, NoSizes, NoWay, NoWish, NoWishes
from exactbeats.planes import Laid, are_ways, barred_laid, is_barred_laid, ways
from tests.drawn import Drawn, drawn_wishes
from tests.odd import check_judged, check_raises, nested, not_integers_from, odd_things, with_each
from tests.test_matchings import wrong_pairs

SIZES = [(lines, boxes) for lines in range(1, 13) for boxes in range(1, 13) if lines * boxes <= 12]


def wrong_sizes():
    wrong = [[2, 2], (2,), (2, 2, 2), (0, 2), (2, 0), (-2, -2), (True, 2), (2, True), (13, 1), (1, 13), (3, 5), (12, 2),
             (12, 12), 4, (4, 4)]
    return wrong + with_each((2, 2), odd_things()) + odd_things()


def wrong_lots(many):
    """Things that are no lot of numbers below so many."""
    wrong = [[], [0], (1, 0), (0, 0), (many,), (0, many), (-1, 0), (True,), (0, True), (None,), ((0,),), ("0",), 0]
    return wrong + [thing for thing in odd_things() if thing != ()]


def boxes_of(sizes, wish):
    return (wish[0] // sizes[0], wish[1] // sizes[0])


def first_overfull(sizes, many, wishes):
    """The side and box that NoWay is to name, or None."""
    for side, name in enumerate(("in", "out")):
        for box in range(sizes[1]):
            if sum([boxes_of(sizes, wish)[side] == box for wish in wishes]) > many:
                return {"side": name, "box": box}
    return None


def are_apart(sizes, wishes, planes):
    """9.1 told anew: each two ways, one behind the other."""
    for (wish, plane), (other, used) in itertools.combinations(list(zip(wishes, planes)), 2):
        tie, elder = boxes_of(sizes, wish), boxes_of(sizes, other)
        if plane == used and (tie[0] == elder[0] or tie[1] == elder[1]):
            return False
    return True


class Ways(unittest.TestCase):
    def test_ways_exactly_if_no_box_has_more_wishes_than_planes(self):
        drawn = Drawn(41)
        none = 0
        for sizes in SIZES * 4:
            lines = sizes[0] * sizes[1]
            wishes = drawn_wishes(drawn, lines, drawn.below(lines + 1))
            for many in range(sizes[0] + 2):
                alive = drawn.lot(12, many)
                overfull = first_overfull(sizes, len(alive), wishes)
                if overfull is None:
                    told = ways(sizes, alive, wishes)
                    self.assertIs(are_ways(sizes, alive, wishes, told), True)
                    self.assertTrue(are_apart(sizes, wishes, told) and set(told) <= set(alive))
                    self.assertEqual((told.__class__, len(told)), (tuple, len(wishes)))
                else:
                    none += 1
                    check_raises(self, NoWay, overfull, ways, sizes, alive, wishes)
        self.assertGreater(none, 50)

    def test_for_all_wishes_exactly_if_as_many_planes_as_lines(self):
        drawn = Drawn(42)
        for sizes in SIZES:
            lines = sizes[0] * sizes[1]
            for _ in range(5):
                wishes = drawn_wishes(drawn, lines, lines)
                for many in range(1, 13):
                    if many < sizes[0]:
                        check_raises(self, NoWay, {"side": "in", "box": 0}, ways, sizes, drawn.lot(12, many), wishes)
                    else:
                        alive = drawn.lot(12, many)
                        self.assertIs(are_ways(sizes, alive, wishes, ways(sizes, alive, wishes)), True)

    def test_no_wishes_and_no_planes(self):
        for sizes in SIZES:
            for alive in ((), (0,), (11,), tuple(range(12))):
                self.assertEqual(ways(sizes, alive, ()), ())
            check_raises(self, NoWay, {"side": "in", "box": sizes[1] - 1}, ways, sizes, (),
                         ((sizes[0] * sizes[1] - 1, 0),))

    def test_which_side_and_box_no_way_names(self):
        # Of box 1's lines two wishes, to box 0 and box 1 one each; then to box 0 two, from box 0 and box 1.
        check_raises(self, NoWay, {"side": "in", "box": 1}, ways, (2, 2), (5,), ((2, 0), (3, 2)))
        check_raises(self, NoWay, {"side": "out", "box": 0}, ways, (2, 2), (5,), ((0, 0), (2, 1)))
        check_raises(self, NoWay, {"side": "out", "box": 1}, ways, (2, 2), (5,), ((0, 3), (2, 2)))
        check_raises(self, NoWay, {"side": "in", "box": 1}, ways, (2, 3), (5,), ((0, 0), (2, 1), (3, 2)))
        check_raises(self, NoWay, {"side": "in", "box": 0}, ways, (2, 2), (5,), ((0, 0), (1, 2), (2, 1), (3, 3)))
        self.assertEqual(ways((2, 2), (5,), ((0, 0), (2, 2))), (5, 5))
        self.assertEqual(set(ways((2, 1), (3, 5), ((0, 0), (1, 1)))), {3, 5})

    def test_errors_in_their_order(self):
        for call, rest in ((ways, ()), (are_ways, (None,))):
            for thing in wrong_sizes():
                if thing != (2, 2):
                    check_raises(self, NoSizes, {}, call, thing, None, None, *rest)
            for thing in wrong_lots(12):
                check_raises(self, NoPlanes, {}, call, (2, 2), thing, None, *rest)
            wrong = [[], [(0, 0)], ((0, 0), (0, 0)), ((0, 0), (0, 1)), ((0, 0), (1, 0)), ((1, 1), (0, 0)), ((4, 0),),
                     ((0, 4),), ((0, 0), None)] + [(thing,) for thing in wrong_pairs(4)]
            for thing in wrong + [thing for thing in odd_things() if thing != ()]:
                check_raises(self, NoWishes, {}, call, (2, 2), (), thing, *rest)

    def test_are_ways_by_trying_all(self):
        drawn = Drawn(43)
        for sizes in ((1, 1), (2, 1), (2, 2), (1, 3), (3, 2), (2, 3)):
            lines = sizes[0] * sizes[1]
            for many in range(4):
                wishes = drawn_wishes(drawn, lines, many)
                for planes in itertools.product((0, 1, 4), repeat=len(wishes)):
                    right = are_apart(sizes, wishes, planes)
                    self.assertIs(are_ways(sizes, (0, 1, 4), wishes, planes), right)
                    self.assertIs(are_ways(sizes, (0, 4), wishes, planes), right and 1 not in planes)

    def test_other_things_are_no_ways(self):
        asked = ((2, 2), (0, 1, 5), ((0, 0), (1, 2)))
        check_judged(self, are_ways, ((2, 2), (), ()), [()])
        check_judged(self, are_ways, asked, [(0, 1), (5, 0), (1, 5)])
        for thing in ([0, 1], (0,), (0, 1, 5), (0, 0), (0, 2), (0, -1), (False, 1), (0, True), (0, 12),
                      (0, nested(39, tuple))):
            self.assertIs(are_ways(*asked, thing), False)
        for thing in with_each((0, 1), odd_things()):
            self.assertIs(are_ways(*asked, thing), False)


def state(laid):
    return (laid.laid(), laid.alive(), laid.moved())


class PlainLaid:
    """9.2 told anew, by with_tie on the webs of boxes, planes numbered among those that are alive."""

    def __init__(self, sizes, alive):
        self.sizes, self.alive, self.by, self.moves = sizes, list(alive), {}, 0

    def ordered(self):
        """The wishes by the ties of the web of boxes."""
        return sorted(self.by, key=lambda wish: (boxes_of(self.sizes, wish), wish))

    def put(self, wish):
        if first_overfull(self.sizes, len(self.alive), [*self.by, wish]):
            return None
        wishes = self.ordered()
        web = tuple([boxes_of(self.sizes, other) for other in wishes])
        colours = tuple([self.alive.index(self.by[other]) for other in wishes])
        tie = boxes_of(self.sizes, wish)
        turned, moved = with_tie(self.sizes[1], web, len(self.alive), colours, tie)
        wishes.insert(len([other for other in web if other <= tie]), wish)
        self.by = {other: self.alive[colour] for other, colour in zip(wishes, turned)}
        self.moves += len(moved)
        return len(moved)

    def lose(self, plane):
        self.alive.remove(plane)
        dropped = sorted([wish for wish, used in self.by.items() if used == plane])
        for wish in dropped:
            del self.by[wish]
        return tuple([wish for wish in dropped if self.put(wish) is None])


class Lives(unittest.TestCase):
    def test_errors_of_the_class(self):
        for thing in wrong_sizes():
            if thing != (2, 2):
                check_raises(self, NoSizes, {}, Laid, thing, None)
        for thing in wrong_lots(12):
            check_raises(self, NoPlanes, {}, Laid, (2, 2), thing)
        for sizes in SIZES:
            for alive in ((), (0, 11), tuple(range(12))):
                self.assertEqual(state(Laid(sizes, alive)), ((), alive, 0))

    def test_put_by_the_least_plane_that_is_free(self):
        laid = Laid((3, 2), (2, 5, 7))
        self.assertEqual([laid.put((0, 0)), laid.put((3, 3)), laid.put((1, 4)), laid.put((4, 1))], [0, 0, 0, 0])
        self.assertEqual(laid.laid(), (((0, 0), 2), ((1, 4), 5), ((3, 3), 2), ((4, 1), 5)))

    def test_put_moves_others(self):
        laid = Laid((2, 2), (3, 9))
        laid.put_by((0, 0), 3)
        laid.put_by((2, 2), 9)
        # From box 0 plane 9 is free, to box 1 plane 3: the row of the output goes over, the new one has 9.
        self.assertEqual(laid.put((1, 3)), 1)
        self.assertEqual(state(laid), ((((0, 0), 3), ((1, 3), 9), ((2, 2), 3)), (3, 9), 1))
        self.assertEqual(laid.put((3, 1)), 0)
        self.assertEqual(laid.laid()[3], ((3, 1), 9))

    def test_errors_of_put(self):
        laid = Laid((2, 2), (4,))
        laid.put((0, 1))
        before = state(laid)
        for thing in [*wrong_pairs(4), (0, 0), (0, 1), (3, 1)]:
            for call, rest in ((laid.put, ()), (laid.put_by, (None,)), (laid.free_for, ())):
                check_raises(self, NoWish, {}, call, thing, *rest)
        check_raises(self, NoWay, {"side": "in", "box": 0}, laid.put, (1, 0))
        check_raises(self, NoWay, {"side": "in", "box": 0}, laid.put, (1, 2))
        check_raises(self, NoWay, {"side": "out", "box": 0}, laid.put, (2, 0))
        self.assertEqual(state(laid), before)
        check_raises(self, NoWay, {"side": "in", "box": 1}, Laid((2, 2), ()).put, (2, 0))

    def test_put_by(self):
        laid = Laid((3, 2), (1, 2, 3, 4))
        self.assertIsNone(laid.put_by((1, 1), 3))
        self.assertIsNone(laid.put_by((4, 4), 3))
        self.assertIsNone(laid.put_by((2, 5), 4))
        self.assertIsNone(laid.put_by((5, 2), 1))
        before = state(laid)
        self.assertEqual(before[0], (((1, 1), 3), ((2, 5), 4), ((4, 4), 3), ((5, 2), 1)))
        for thing in [*not_integers_from(0, 11), 0, 5, 11]:
            check_raises(self, NoPlane, {}, laid.put_by, (0, 0), thing)
        for wish, plane, barring in (((0, 0), 3, (1, 1)), ((0, 3), 3, (1, 1)), ((3, 3), 3, (4, 4)), ((3, 0), 3, (1, 1)),
                                     ((0, 0), 4, (2, 5)), ((3, 3), 4, (2, 5)), ((0, 0), 1, (5, 2))):
            check_raises(self, Barred, {"wish": barring}, laid.put_by, wish, plane)
        self.assertEqual(state(laid), before)
        laid.put_by((3, 0), 4)
        laid.put_by((0, 3), 1)
        self.assertEqual(laid.moved(), 0)

    def test_drop(self):
        laid = Laid((2, 2), (0, 1))
        laid.put((1, 1))
        laid.put((0, 2))
        for thing in [*wrong_pairs(4), (1, 2), (0, 1), (0, 0), (True, 1), (1, True), (False, 2), [1, 1]]:
            check_raises(self, NoWish, {}, laid.drop, thing)
        self.assertEqual(laid.laid(), (((0, 2), 1), ((1, 1), 0)))
        self.assertIsNone(laid.drop((1, 1)))
        check_raises(self, NoWish, {}, laid.drop, (1, 1))
        self.assertEqual(laid.laid(), (((0, 2), 1),))
        self.assertEqual(laid.put((1, 1)), 0)

    def test_lose_and_back(self):
        laid = Laid((2, 2), (0, 5, 6))
        for wish in ((0, 0), (2, 2), (1, 1), (3, 3)):
            laid.put(wish)
        self.assertEqual(laid.laid(), (((0, 0), 0), ((1, 1), 5), ((2, 2), 0), ((3, 3), 5)))
        for thing in [*not_integers_from(0, 11), 1, 7, 11]:
            check_raises(self, NoPlane, {}, laid.lose, thing)
        for thing in [*not_integers_from(0, 11), 0, 5, 6]:
            check_raises(self, NoPlane, {}, laid.back, thing)
        self.assertEqual(laid.lose(0), ())
        self.assertEqual(state(laid), ((((0, 0), 6), ((1, 1), 5), ((2, 2), 6), ((3, 3), 5)), (5, 6), 0))
        check_raises(self, NoPlane, {}, laid.lose, 0)
        self.assertEqual(laid.lose(5), ((1, 1), (3, 3)))
        self.assertEqual(state(laid), ((((0, 0), 6), ((2, 2), 6)), (6,), 0))
        self.assertIsNone(laid.back(0))
        self.assertIsNone(laid.back(11))
        self.assertEqual(state(laid), ((((0, 0), 6), ((2, 2), 6)), (0, 6, 11), 0))
        self.assertEqual(laid.put((1, 1)), 0)
        self.assertEqual(laid.laid()[1], ((1, 1), 0))
        self.assertEqual([laid.lose(6), laid.lose(0), laid.lose(11)], [(), ((1, 1),), ((0, 0), (2, 2))])
        self.assertEqual(state(laid)[:2], ((), ()))

    def test_free_for(self):
        laid = Laid((2, 3), (1, 3, 5, 9))
        self.assertEqual(laid.free_for((0, 0)), (1, 3, 5, 9))
        laid.put_by((0, 0), 3)
        laid.put_by((2, 2), 5)
        self.assertEqual(laid.free_for((1, 1)), (1, 5, 9))
        self.assertEqual(laid.free_for((1, 3)), (1, 9))
        self.assertEqual(laid.free_for((3, 1)), (1, 9))
        self.assertEqual(laid.free_for((4, 4)), (1, 3, 5, 9))
        self.assertEqual(Laid((1, 1), ()).free_for((0, 0)), ())

    def test_drawn_lives(self):
        drawn = Drawn(44)
        moves, unlaid = 0, 0
        for sizes in [sizes for sizes in SIZES if sizes[0] > 1 or sizes == (1, 4)] * 6:
            alive = drawn.lot(12, min(12, sizes[0] + drawn.below(2)))
            laid, plain = Laid(sizes, alive), PlainLaid(sizes, alive)
            lines = sizes[0] * sizes[1]
            for _ in range(80):
                unlaid += self.step(drawn, lines, laid, plain)
                self.assertEqual(laid.laid(), tuple(sorted(plain.by.items())))
                self.assertEqual((laid.alive(), laid.moved()), (tuple(plain.alive), plain.moves))
                wishes = tuple([wish for wish, _ in laid.laid()])
                self.assertIs(are_ways(sizes, laid.alive(), wishes, tuple([plane for _, plane in laid.laid()])), True)
            moves += laid.moved()
        self.assertGreater(min(moves, unlaid), 20, (moves, unlaid))

    def step(self, drawn, lines, laid, plain):
        """One drawn step of both; returns how many wishes a loss left without a way."""
        taken = [[other[side] for other in plain.by] for side in (0, 1)]
        lines_left, outputs_left = [[number for number in range(lines) if number not in taken[side]] for side in (0, 1)]
        wish = (drawn.among(lines_left or [0]), drawn.among(outputs_left or [0]))
        used = not lines_left
        word = drawn.among(["put"] * 5 + ["put by"] * 4 + ["drop"] * 4 + ["lose", "back"])
        if word == "put" and not used:
            overfull = first_overfull(plain.sizes, len(plain.alive), [*plain.by, wish])
            if overfull:
                check_raises(self, NoWay, overfull, laid.put, wish)
            else:
                moved = plain.put(wish)
                self.assertEqual(laid.put(wish), moved)
                self.assertLess(moved, plain.sizes[1])
        elif word == "put by" and not used and plain.alive:
            plane = drawn.among(plain.alive)
            barring = [other for other in sorted(plain.by) if plain.by[other] == plane
                       and not are_apart(plain.sizes, (wish, other), (plane, plane))]
            self.assertEqual(plane in laid.free_for(wish), not barring)
            if barring:
                check_raises(self, Barred, {"wish": barring[0]}, laid.put_by, wish, plane)
            else:
                laid.put_by(wish, plane)
                plain.by[wish] = plane
        elif word == "drop" and plain.by:
            other = drawn.among(sorted(plain.by))
            laid.drop(other)
            del plain.by[other]
        elif word == "lose" and len(plain.alive) > 1:
            plane = drawn.among(plain.alive)
            left = plain.lose(plane)
            self.assertEqual(laid.lose(plane), left)
            return len(left)
        elif word == "back" and len(plain.alive) <= min(plain.sizes[0], 11):
            plane = drawn.among([plane for plane in range(12) if plane not in plain.alive])
            laid.back(plane)
            plain.alive = sorted([*plain.alive, plane])
        return 0

    def test_copies_go_on_apart(self):
        laid = Laid((2, 2), (0, 1))
        laid.put_by((0, 0), 0)
        laid.put_by((2, 2), 1)
        laid.put((1, 3))
        other = laid.copy()
        self.assertIs(other.__class__, Laid)
        self.assertFalse(laid == other)
        self.assertEqual((state(other), other.moved()), (state(laid), 1))
        before = state(laid)
        other.drop((0, 0))
        other.back(7)
        other.lose(1)
        other.put((3, 1))
        self.assertEqual(state(laid), before)
        later = state(other)
        laid.put((3, 1))
        laid.drop((2, 2))
        laid.back(9)
        self.assertEqual(state(other), later)

    def test_tuples_stay(self):
        laid = Laid((2, 2), (0, 1))
        laid.put((0, 0))
        before = (laid.laid(), laid.alive())
        laid.lose(0)
        laid.put((2, 2))
        self.assertEqual(before, ((((0, 0), 0),), (0, 1)))

    def test_equal_to_itself_alone(self):
        laid = Laid((1, 1), ())
        self.assertTrue(laid == laid)
        for thing in [*odd_things(), Laid((1, 1), ())]:
            self.assertFalse(laid == thing)


def is_barring(sizes, many, laid, wish):
    """9.3 told anew, by put_by one behind another."""
    there = Laid(sizes, tuple(range(many)))
    for other, plane in laid:
        there.put_by(other, plane)
    return there.free_for(wish) == ()


class Staying(unittest.TestCase):
    def test_a_barred_laying_just_where_there_are_too_few_planes(self):
        for sizes in SIZES:
            enough = sizes[0] if sizes[1] == 1 else 2 * sizes[0] - 1
            for many in range(1, 13):
                told = barred_laid(sizes, many)
                self.assertEqual(told is None, many >= enough)
                if told is not None:
                    self.assertIs(is_barred_laid(sizes, many, told), True)
                    self.assertTrue(is_barring(sizes, many, *told))
                    self.assertEqual(told[0], tuple(sorted(told[0])))

    def test_errors_in_their_order(self):
        for call, rest in ((barred_laid, ()), (is_barred_laid, (None,))):
            for thing in wrong_sizes():
                if thing != (2, 2):
                    check_raises(self, NoSizes, {}, call, thing, None, *rest)
            for thing in not_integers_from(1, 12):
                check_raises(self, NoNumber, {}, call, (2, 2), thing, *rest)

    def test_fact_of_staying_at_drawn_lives(self):
        drawn = Drawn(45)
        for sizes in [(2, 2), (2, 3), (3, 2), (2, 1), (4, 1), (1, 5), (4, 3), (6, 2)] * 4:
            enough = sizes[0] if sizes[1] == 1 else 2 * sizes[0] - 1
            laid, lines = Laid(sizes, tuple(range(enough))), sizes[0] * sizes[1]
            for _ in range(50):
                wish = (drawn.below(lines), drawn.below(lines))
                used = [other for other, _ in laid.laid() if other[0] == wish[0] or other[1] == wish[1]]
                for other in used:
                    laid.drop(other)
                free = laid.free_for(wish)
                self.assertTrue(free)
                laid.put_by(wish, drawn.among(free))

    def test_judged_by_trying_all(self):
        for sizes, many in (((2, 1), 1), ((2, 2), 1), ((1, 2), 1), ((2, 2), 2), ((3, 1), 2)):
            lines = sizes[0] * sizes[1]
            wishes = list(itertools.product(range(lines), repeat=2))
            pairs = list(itertools.product(wishes, range(many)))
            for length in range(3):
                for laid in itertools.permutations(pairs, length):
                    for wish in wishes[::2] if length == 2 else wishes:
                        self.assertIs(is_barred_laid(sizes, many, (laid, wish)), self.right(sizes, many, laid, wish))

    def right(self, sizes, many, laid, wish):
        if laid != tuple(sorted(laid)):
            return False
        try:
            return is_barring(sizes, many, laid, wish)
        except (NoWish, Barred):
            return False

    def test_other_things_are_not(self):
        laid, wish = (((1, 2), 0), ((2, 1), 1)), (0, 0)
        self.assertIs(is_barred_laid((2, 2), 2, (laid, wish)), True)
        self.assertIs(is_barred_laid((2, 2), 3, (laid, wish)), False)
        self.assertIs(is_barred_laid((2, 2), 1, (laid, wish)), False)
        check_judged(self, is_barred_laid, ((2, 2), 2), [(laid, wish)])
        for thing in ([laid, wish], (laid,), (laid, wish, 0), (list(laid), wish), (laid, [0, 0]), (laid[::-1], wish),
                      (laid + laid[1:], wish), (laid[:1], wish), ((), wish), (laid, (1, 0)), (laid, (0, 1)),
                      (laid, (2, 2)), (laid, (4, 0)), (laid, (False, 0)), (laid, (0, 0, 0)),
                      (([(1, 2), 0], laid[1]), wish),
                      (([1, 2], 0), wish), ((((1, 2), False), laid[1]), wish), (((1, 2, 0), laid[1]), wish),
                      ((((True, 2), 0), laid[1]), wish), ((((1, 2), 0), ((2, 1), 2)), wish),
                      ((((1, 2),), laid[1]), wish), ((((1, 2), 0), ((2, 2), 1)), wish), (laid, None), (None, wish),
                      ((laid[0], None), wish)):
            self.assertIs(is_barred_laid((2, 2), 2, thing), False)
        for thing in with_each((laid, wish), [thing for thing in odd_things()]):
            self.assertIs(is_barred_laid((2, 2), 2, thing), False)
        for thing in with_each(laid[0], odd_things()) + odd_things():
            self.assertIs(is_barred_laid((2, 2), 2, ((thing, laid[1]), wish)), False)


if __name__ == "__main__":
    unittest.main()
