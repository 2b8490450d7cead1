"""Cells, copies and arrivals: 1.1 and 1.2."""

import unittest

from exactbeats.cells import Cell, cells, copies, is_arrivals
from exactbeats.errors import BadArrivals, BadCell, NoLines, NoMost
from exactbeats.ideal import Ideal
from tests.odd import check_raises, not_integers_from, odd_things

RIGHT = (7, 3, 99, 5, (0, 4, 11))
PARTS = ("number", "line", "stream", "kind", "outs")
BOUNDS = (10 ** 9, 11, 99, 7)


def changed(items, place, thing):
    return items[:place] + (thing,) + items[place + 1:]


def wrong_outs():
    lots = [(), [0], [0, 1], (0, 0), (1, 0), (0, 2, 1), (0, 1, 2, 3), (12,), (0, 12), (-1,), (-1, 0), (True,),
            (False, 1), (0, True), ("0",), (None,), ((0,),), (0, (1,)), (10 ** 59,), 0, "0", b"\x00", range(1), {0: 0}]
    return lots + odd_things()


class Cells(unittest.TestCase):
    def test_attributes(self):
        cell = Cell(*RIGHT)
        self.assertEqual((cell.came_as, cell.at_line, cell.of_stream, cell.of_kind, cell.to_outs), RIGHT)

    def test_edges_are_taken(self):
        for edges in ((0, 0, 0, 0, (0,)), (10 ** 9, 11, 99, 7, (9, 10, 11))):
            cell = Cell(*edges)
            self.assertEqual((cell.came_as, cell.at_line, cell.of_stream, cell.of_kind, cell.to_outs), edges)

    def test_each_wrong_part_is_told(self):
        for place, greatest in enumerate(BOUNDS):
            for thing in not_integers_from(0, greatest):
                check_raises(self, BadCell, {"part": PARTS[place]}, Cell, *changed(RIGHT, place, thing))
        for thing in wrong_outs():
            check_raises(self, BadCell, {"part": "outs"}, Cell, *changed(RIGHT, 4, thing))

    def test_the_first_wrong_part_is_told(self):
        wrong = (-1, 12, 100, 8, ())
        for place in range(5):
            check_raises(self, BadCell, {"part": PARTS[place]}, Cell, *RIGHT[:place], *wrong[place:])

    def test_equal_if_all_parts_are(self):
        self.assertTrue(Cell(*RIGHT) == Cell(*RIGHT))
        self.assertFalse(Cell(*RIGHT) != Cell(*RIGHT))
        for place, thing in enumerate((8, 4, 98, 6, (0, 4))):
            self.assertFalse(Cell(*RIGHT) == Cell(*changed(RIGHT, place, thing)))
            self.assertTrue(Cell(*RIGHT) != Cell(*changed(RIGHT, place, thing)))

    def test_equal_to_nothing_else(self):
        cell = Cell(1, 0, 0, 0, (0,))
        for thing in [*odd_things(), 1, (1, 0, 0, 0, (0,)), [1, 0, 0, 0, (0,)], ((1, 0),), BadCell("number")]:
            self.assertFalse(cell == thing)
            self.assertFalse(thing == cell)

    def test_copies_by_outputs(self):
        self.assertEqual(copies(Cell(*RIGHT)), ((7, 0), (7, 4), (7, 11)))
        self.assertEqual(copies(Cell(0, 0, 0, 0, (5,))), ((0, 5),))
        self.assertIsInstance(copies(Cell(*RIGHT)), tuple)


class Arrivals(unittest.TestCase):
    def test_arrivals_are_known(self):
        full = (99, 7, (9, 10, 11))
        for lines, most, thing in (
                (1, 1, ()), (1, 1, ((None,),)), (1, 3, (((0, 0, (0,)),),)), (12, 3, ((full,) * 12,) * 200),
                (3, 2, ((None, (1, 2, (0, 2)), None), (None, None, None))), (2, 1, ((None, (0, 0, (1,))),))):
            self.assertIs(is_arrivals(lines, most, thing), True)

    def test_other_things_are_not(self):
        for lines in (1, 2, 3):
            for thing in odd_things():
                self.assertIs(is_arrivals(lines, 3, thing), False)
                if thing is not None:
                    self.assertIs(is_arrivals(1, 3, ((thing,),)), False)
                self.assertIs(is_arrivals(1, 3, (thing,)), False)
        self.assertIs(is_arrivals(1, 1, ((None,),) * 200), True)
        self.assertIs(is_arrivals(1, 1, ((None,),) * 201), False)

    def test_items_that_are_no_arrivals(self):
        right = (0, 0, (0, 1))
        self.assertIs(is_arrivals(2, 2, ((right, None),)), True)
        wrong = [list(right), right + (0,), right[:2], (0, 0, [0, 1]), (0, 0, 0)]
        wrong += [changed(right, 0, thing) for thing in not_integers_from(0, 99)]
        wrong += [changed(right, 1, thing) for thing in not_integers_from(0, 7)]
        wrong += [changed(right, 2, thing) for thing in [*wrong_outs(), (2,), (0, 2)]]
        for item in wrong:
            self.assertIs(is_arrivals(2, 2, ((item, None),)), False)
            check_raises(self, BadArrivals, {"at": (0, 1)}, cells, 2, 2, ((None, item),))

    def test_outs_of_at_most_most_lines(self):
        for most in (1, 2, 3):
            for many in (1, 2, 3, 4):
                thing = (((0, 0, tuple(range(many))), None, None, None),)
                self.assertIs(is_arrivals(4, most, thing), many <= most)
        self.assertIs(is_arrivals(3, 1, (((0, 0, (2,)), None, None),)), True)
        self.assertIs(is_arrivals(3, 1, (((0, 0, (3,)), None, None),)), False)

    def test_cells_are_numbered_beat_by_beat_line_by_line(self):
        arrivals = ((None, (5, 1, (0, 1)), (6, 2, (2,))), (None, None, None), ((7, 3, (1,)), None, (8, 4, (0, 2))))
        self.assertEqual(cells(3, 2, arrivals), [
            [Cell(0, 1, 5, 1, (0, 1)), Cell(1, 2, 6, 2, (2,))], [],
            [Cell(2, 0, 7, 3, (1,)), Cell(3, 2, 8, 4, (0, 2))]])
        self.assertEqual(cells(1, 1, ()), [])
        self.assertEqual(cells(2, 3, ((None, None),) * 200), [[]] * 200)

    def test_most_cells(self):
        beats = cells(12, 3, ((((99, 7, (9, 10, 11)),) * 12),) * 200)
        self.assertEqual([cell.came_as for came in beats for cell in came], list(range(2400)))
        self.assertEqual([cell.at_line for cell in beats[199]], list(range(12)))

    def test_lists_are_new(self):
        arrivals = (((0, 0, (0,)),), (None,))
        first, second = cells(1, 1, arrivals), cells(1, 1, arrivals)
        first[0].clear()
        first[1].append(0)
        first.append([])
        self.assertEqual(second, [[Cell(0, 0, 0, 0, (0,))], []])
        self.assertEqual(cells(1, 1, arrivals), second)
        self.assertIsNot(cells(1, 1, ((None,), (None,)))[0], cells(1, 1, ((None,), (None,)))[1])

    def test_wrong_lines_then_wrong_most(self):
        for call in (is_arrivals, cells):
            for thing in not_integers_from(1, 12):
                check_raises(self, NoLines, {}, call, thing, 4, None)
            for thing in not_integers_from(1, 3):
                check_raises(self, NoMost, {}, call, 1, thing, None)
            for lines in (1, 12):
                for most in (1, 3):
                    call(lines, most, ())

    def test_no_tuple_or_too_long_a_one(self):
        for thing in [[], [(None,)], None, ((None,),) * 201, ([],) * 201, {}, "", (None,) * 60000, Ideal(1)]:
            check_raises(self, BadArrivals, {"at": -1}, cells, 1, 1, thing)

    def test_first_beat_of_a_wrong_form(self):
        empty = (None, None)
        for thing in [*odd_things(), (None,), (None,) * 3, [None, None], ((),)]:
            if not (isinstance(thing, tuple) and len(thing) == 2):
                check_raises(self, BadArrivals, {"at": 0}, cells, 2, 1, (thing, empty))
                check_raises(self, BadArrivals, {"at": 199}, cells, 2, 1, (empty,) * 199 + (thing,))
                check_raises(self, BadArrivals, {"at": 1}, cells, 2, 1, (empty, thing, (), thing))

    def test_first_item_that_is_wrong(self):
        empty, wrong = (None, None), (None, 0)
        check_raises(self, BadArrivals, {"at": (0, 1)}, cells, 2, 1, (wrong, (0, 0)))
        check_raises(self, BadArrivals, {"at": (1, 0)}, cells, 2, 1, (empty, (0, 0), wrong))
        check_raises(self, BadArrivals, {"at": (199, 1)}, cells, 2, 1, (empty,) * 199 + (wrong,))

    def test_a_beat_of_a_wrong_form_is_due_ahead_of_a_wrong_item(self):
        check_raises(self, BadArrivals, {"at": 1}, cells, 2, 1, ((None, 0), (None,), ()))
        check_raises(self, BadArrivals, {"at": -1}, cells, 2, 1, ((None, 0),) + ((None,),) * 200)


if __name__ == "__main__":
    unittest.main()
